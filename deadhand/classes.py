"""Classes: all children of one that reach an age."""

from deadhand.needs import FAILED, HANGS, MET, age_stand, atom_since, last_death


def brood(world, name):
    """The children of one, none where that one isn't in the book."""
    return world.lives.children(name) if world.lives.known(name) else []


def left_out(world, name):
    """The children of one that are dead now."""
    return [child for child in brood(world, name) if not world.lives.alive(child)]


def members(world, name, out):
    """The children of one that were not left out."""
    return [child for child in brood(world, name) if child not in out]


def seats(world, name, age, out):
    """The members that reached the age, now or at the death."""
    lives, year = world.lives, world.year
    return [child for child in members(world, name, out) if lives.age_in(child, year) >= age]


def has_seat(world, name, age, out):
    """Whether a member reached the age."""
    for child in members(world, name, out):
        if world.age(child) >= age:
            return True
    return False


def waiting(world, name, age, out):
    """The members that live and are younger."""
    return [child for child in members(world, name, out) if age_stand(world, child, age) == HANGS]


def may_grow(world, name):
    """Whether children of one may still be born."""
    # One of the book is its own nearest, and one who is still to be born needs a living nearest.
    return world.lives.alive(world.lives.nearest(name))


def class_stand(world, name, age, out):
    """How a class stands: met, failed or hangs."""
    if may_grow(world, name) or waiting(world, name, age, out):
        return HANGS
    return MET if has_seat(world, name, age, out) else FAILED


def class_since(world, name, age, out, day):
    """The year in which a class was settled, None while it hangs."""
    if class_stand(world, name, age, out) == HANGS:
        return None
    years = [atom_since(world, ("age", child, age)) for child in members(world, name, out)]
    return max([day, last_death(world, name)] + years)
