"""Needs: how they stand, and when they were settled."""

from deadhand.errors import NoPerson

MET = "met"
FAILED = "failed"
HANGS = "hangs"


def nearest_named(world, name):
    """The nearest of a name; refused is one that isn't well written, or whose word isn't in the book."""
    found = world.lives.nearest(name)
    if found == "":
        raise NoPerson("a name is asked for whose word is not in the book")
    return found


def age_stand(world, name, age):
    """How the need stands that one of the book reaches an age."""
    if world.age(name) >= age:
        return MET
    return HANGS if world.lives.alive(name) else FAILED


def person_stand(world, atom):
    """How a need about one of the people stands."""
    kind, name = atom[0], atom[1]
    if not world.lives.known(name):
        return HANGS if world.lives.alive(nearest_named(world, name)) else FAILED
    if kind == "age":
        return age_stand(world, name, atom[2])
    if kind == "dead" and world.lives.alive(name):
        return HANGS
    return MET


def atom_stand(world, atom):
    """How a need stands: met, failed or hangs."""
    kind = atom[0]
    if kind == "year":
        return MET if world.year >= atom[1] else HANGS
    if kind == "comes":
        return HANGS if world.came_in(atom[1]) is None else MET
    return person_stand(world, atom)


def last_death(world, name):
    """The year in which one died, or the nearest of one who never came."""
    return world.lives.died_in(world.lives.nearest(name))


def met_since(world, atom):
    """The year in which a need that is met was settled."""
    kind = atom[0]
    if kind == "year":
        return atom[1]
    if kind == "comes":
        return world.came_in(atom[1])
    if kind == "dead":
        return world.lives.died_in(atom[1])
    born = world.lives.born_in(atom[1])
    return born if kind == "born" else born + atom[2]


def atom_since(world, atom):
    """The year in which a need was settled, None while it hangs."""
    how = atom_stand(world, atom)
    if how == HANGS:
        return None
    # Only a need about one of the people fails, and always by a death.
    return met_since(world, atom) if how == MET else last_death(world, atom[1])


def together(stands):
    """How parts stand that are wanted together, by how each of them stands."""
    if FAILED in stands:
        return FAILED
    return HANGS if HANGS in stands else MET


def settled(pieces, day):
    """The year in which parts wanted together were settled, each a tuple of how it stands and its year."""
    how = together([piece[0] for piece in pieces])
    if how == HANGS:
        return None
    years = [year for stands, year in pieces if stands == how]
    return max(min(years), day) if how == FAILED else max([day] + years)


def stand(world, atoms):
    """How needs in a list stand."""
    return together([atom_stand(world, atom) for atom in atoms])


def since(world, atoms, day):
    """The year in which needs in a list were settled, None while they hang."""
    return settled([(atom_stand(world, atom), atom_since(world, atom)) for atom in atoms], day)


def over(world, ends):
    """Whether at least one of the ends in a list is met."""
    return MET in [atom_stand(world, atom) for atom in ends]
