"""What several files of tests need: refusals, whole states, and models to hold the program against."""

from deadhand.errors import Gone, LandError, NoPerson, Taken, TooDeep
from deadhand.world import World

HUGE = 10 ** 40
WORDS = ["ann", "bob", "eve"]
HAPPENINGS = ["war", "flood", "ann"]
NOT_WELL_WRITTEN = [
    "", "crown", "kids", "crown.1", "abcdefghi", "ann.0", "ann.01", "ann.100", "ann.", ".ann", "ann..1", "ann\n",
    "ann.1\n", "ann.1.1.1.1.1.1", " ann", "Ann", "ann.x", "1",
]


def refused_with(case, kind, deed, *things):
    """Want a refusal of just this class."""
    with case.assertRaises(LandError) as caught:
        deed(*things)
    case.assertIs(type(caught.exception), kind)


def whole_book(lives, texts=()):
    """All that a book tells, of its people and of other texts."""
    people = {
        name: (lives.known(name), lives.alive(name), lives.born_in(name), lives.died_in(name), lives.children(name),
               lives.nearest(name), lives.never(name))
        for name in lives.names()
    }
    others = [(lives.known(text), lives.alive(text)) for text in texts]
    return (lives.names(), lives.living(), people, others)


def whole_world(world):
    """All that a world tells."""
    ages = {name: world.age(name) for name in world.lives.names()}
    came = {word: world.came_in(word) for word in HAPPENINGS + WORDS + NOT_WELL_WRITTEN}
    return (world.year, whole_book(world.lives, NOT_WELL_WRITTEN), ages, came)


def do(world, deed):
    """Do a deed in a world, told as a text like `arrive ann 20`, `birth ann`, `years 70`."""
    kind, thing, *more = deed.split()
    if kind == "arrive":
        return world.arrive(thing, int(more[0]))
    if kind == "years":
        return wait(world, int(thing))
    return {"birth": world.birth, "death": world.death, "comes": world.comes}[kind](thing)


def grown(year, deeds):
    """A world in which deeds were done."""
    world = World(year)
    for deed in deeds:
        do(world, deed)
    return world


def wait(world, many):
    """Let any number of years pass."""
    while many > 0:
        world.pass_years(min(many, 60))
        many -= 60


def fate(world, name):
    """Walk from the word down: the years of birth and death, or None and the death's year of the last one found."""
    pieces = name.split(".")
    at = pieces[0]
    for piece in pieces[1:]:
        below = f"{at}.{piece}"
        if below not in world.lives.children(at):
            return (None, world.lives.died_in(at))
        at = below
    return (world.lives.born_in(at), world.lives.died_in(at))


class Model:
    """The book as a plain list of rows, each [name, born, died]."""

    def __init__(self):
        self.rows = []

    def row(self, name):
        found = [row for row in self.rows if row[0] == name]
        return found[0] if found else None

    def children(self, name):
        return [row[0] for row in self.rows if row[0].split(".")[:-1] == name.split(".")]

    def nearest(self, name):
        pieces = name.split(".")
        for many in range(len(pieces), 0, -1):
            if self.row(".".join(pieces[:many])):
                return ".".join(pieces[:many])
        return ""

    def wanted(self, kind, name):
        """The refusal of a deed, or None."""
        row = self.row(name)
        if kind == "arrive":
            return Taken if row else None
        if not row:
            return NoPerson
        if row[2] is not None:
            return Gone
        return TooDeep if kind == "birth" and len(name.split(".")) == 6 else None

    def do(self, kind, name, year):
        if kind == "arrive":
            self.rows.append([name, year, None])
        elif kind == "birth":
            child = f"{name}.{len(self.children(name)) + 1}"
            self.rows.append([child, year, None])
            return child
        else:
            self.row(name)[2] = year
        return None


def any_name(chance, names):
    """One of some names or of the words, at times with a few numbers more."""
    start = chance.choice(names + WORDS)
    more = "".join(f".{chance.randint(1, 4)}" for number in range(chance.choice([0, 0, 0, 1, 2])))
    return start + more if (start + more).count(".") <= 5 else start


def any_placed_name(chance, world):
    """A name whose word is in the book of a world that has people."""
    names = world.lives.names()
    name = any_name(chance, names)
    while not world.lives.nearest(name):
        name = any_name(chance, names)
    return name


def any_deed(chance, world):
    """Do something that can be done in a world, as chance has it; at most one year passes."""
    living = world.lives.living()
    absent = [word for word in WORDS if not world.lives.known(word)]
    to_come = [word for word in HAPPENINGS if world.came_in(word) is None]
    parents = [name for name in living if name.count(".") < 5 and len(world.lives.children(name)) < 12]
    kind = chance.choice(["arrive", "birth", "birth", "birth", "death", "comes", "years", "years", "years"])
    if kind == "arrive" and absent:
        world.arrive(chance.choice(absent), chance.choice([0, 1, 20, 120]))
    elif kind == "birth" and parents:
        world.birth(chance.choice(parents))
    elif kind == "death" and living:
        world.death(chance.choice(living))
    elif kind == "comes" and to_come and chance.random() < 0.2:
        world.comes(chance.choice(to_come))
    else:
        world.pass_years(1)
