"""Layers: rows that were given, with their whole needs, their seats and the ledgers of these."""

from deadhand.classes import class_since, class_stand, has_seat, left_out, members, seats
from deadhand.lives import shortened
from deadhand.needs import FAILED, HANGS, MET, atom_since, atom_stand, over, settled, stand, together
from deadhand.shares import held_in, held_passed, ledger_of, put_in, taken

LATE = "late"
WHOLE = (1, 1)


def is_class(holder):
    """Whether a holder is a class."""
    return holder[0] == "kids"


def left_out_of(world, holder):
    """Those whom a holder leaves out that is made now: none, but for a class."""
    return left_out(world, holder[1]) if is_class(holder) else []


def wanted(holder, atoms):
    """The needs of a row, with the birth of one holder among them."""
    return list(atoms) if is_class(holder) else atoms + [("born", holder[1])]


def whole_stand(world, holder, atoms, out):
    """How the whole need of a row stands."""
    how = stand(world, wanted(holder, atoms))
    if how == FAILED or not is_class(holder):
        return how
    return together([how, class_stand(world, holder[1], holder[2], out)])


def whole_since(world, holder, atoms, out, day):
    """The year in which the whole need of a row was settled, None while it hangs."""
    pieces = [(atom_stand(world, atom), atom_since(world, atom)) for atom in wanted(holder, atoms)]
    if is_class(holder):
        name, age = holder[1], holder[2]
        pieces.append((class_stand(world, name, age, out), class_since(world, name, age, out, day)))
    return settled(pieces, day)


class Layer:
    """A row that was given, and what became of its seats."""

    def __init__(self, above, row, day, out, entered, paper):
        """A layer out of another one, given in a year when so many people were in the book."""
        self.above = above
        self.holder = row[0]
        self.needs = list(row[1])
        self.ends = list(row[2])
        self.day = day
        self.out = list(out)
        self.entered = entered
        self.paper = paper
        self.dropped = False
        # Only ledgers that are no more as they began are kept here, as dicts of names and shares: some are long, and
        # many deaths change them. None of the dicts is changed itself, so that a twin may have the same ones.
        self.ledgers = {}
        self.below = []

    def twin(self):
        """A layer of its own that is as this one is now."""
        row = (self.holder, self.needs, self.ends)
        other = Layer(self.above, row, self.day, self.out, self.entered, self.paper)
        other.dropped = self.dropped
        other.ledgers = dict(self.ledgers)
        other.below = list(self.below)
        return other


def layer_now(world, above, row, paper):
    """The layer of a row that is given now."""
    return Layer(above, row, world.year, left_out_of(world, row[0]), len(world.lives.names()), paper)


def layer_stand(world, layer):
    """How the whole need of a layer stands."""
    return whole_stand(world, layer.holder, layer.needs, layer.out)


def layer_since(world, layer):
    """The year in which the whole need of a layer was settled, None while it hangs."""
    return whole_since(world, layer.holder, layer.needs, layer.out, layer.day)


def struck(layer):
    """Whether a layer was late from the beginning."""
    return layer.paper[0] == LATE


def ended(world, layer):
    """Whether a layer is struck, dropped or over by its ends."""
    return struck(layer) or layer.dropped or over(world, layer.ends)


def is_shut(world, layer):
    """Whether a layer can never be open again."""
    return ended(world, layer) or layer_stand(world, layer) == FAILED


def seat_names(world, layer):
    """Those who have a ledger in a layer, the members of a class that wait or died too young too."""
    holder = layer.holder
    return members(world, holder[1], layer.out) if is_class(holder) else [holder[1]]


def full_seats(world, layer):
    """The seats of an open layer."""
    holder = layer.holder
    return seats(world, holder[1], holder[2], layer.out) if is_class(holder) else [holder[1]]


def is_open(world, layer):
    """Whether a layer is open."""
    holder = layer.holder
    if ended(world, layer) or stand(world, wanted(holder, layer.needs)) != MET:
        return False
    return not is_class(holder) or has_seat(world, holder[1], holder[2], layer.out)


def held_of(layer, seat):
    """A dict of the names and shares of a seat that is there."""
    return layer.ledgers.get(seat, {seat: WHOLE})


def seat_ledger(layer, seat):
    """The ledger of a seat that is there."""
    return ledger_of(held_of(layer, seat))


def is_own_seat(layer, name):
    """Whether one of the book has a seat in a layer."""
    if is_class(layer.holder):
        return shortened(name) == layer.holder[1] and name not in layer.out
    return name == layer.holder[1]


def held_seats(layer, name):
    """The seats of a layer in which one of the book has a share."""
    first = [name] if name not in layer.ledgers and is_own_seat(layer, name) else []
    return first + [seat for seat in layer.ledgers if name in layer.ledgers[seat]]


def pass_on(layer, name, takers):
    """All that one has in a layer goes to the takers."""
    for seat in held_seats(layer, name):
        layer.ledgers[seat] = held_passed(held_of(layer, seat), name, takers)


def move_share(layer, seat, seller, buyer, share):
    """A share of the whole seat goes from one to another."""
    left = taken(seat_ledger(layer, seat), seller, share)
    layer.ledgers[seat] = held_in(put_in(left, buyer, share))


def is_only_owner(layer, name):
    """Whether a layer has one holder, and the whole of that seat is a name's."""
    return not is_class(layer.holder) and held_of(layer, layer.holder[1]) == {name: WHOLE}


def deadline_of(world, layer, term):
    """The year by which a layer should be settled, None while one of its lives lives."""
    # Those who were dead already on the day died no later than the day's year, so they may be looked at too.
    deaths = [world.lives.died_in(name) for name in world.lives.names()[:layer.entered]]
    return None if None in deaths else max([layer.day] + deaths) + term


def watched(world, layer, term):
    """Whether a layer is kept, over or hangs, held against its deadline."""
    year = layer_since(world, layer)
    limit = deadline_of(world, layer, term)
    if year is None:
        return "over" if limit is not None and world.year > limit else HANGS
    return "kept" if limit is None or year <= limit else "over"
