"""Sure or late: whether a row that is given now can hang for too long."""

from deadhand.classes import has_seat, left_out, may_grow, waiting
from deadhand.layers import LATE, is_class, left_out_of, wanted, whole_stand
from deadhand.lives import parts
from deadhand.needs import HANGS, atom_stand
from deadhand.world import MOST_YEARS

SURE = "sure"
ABOUT_PEOPLE = ("born", "dead", "age")


def class_end(world, name, age):
    """The least year in which all who live can be dead without a class having failed."""
    out = left_out(world, name)
    # A child that is born now and lives on keeps a class that may grow from failing.
    if may_grow(world, name) or has_seat(world, name, age, out):
        return world.year
    births = [world.lives.born_in(child) for child in waiting(world, name, age, out)]
    return min(births) + age if births else world.year


def first_end(world, holder, atoms):
    """The least year in which all who live can be dead without the whole need having failed."""
    lives = world.lives
    years = [lives.born_in(atom[1]) + atom[2] for atom in atoms if atom[0] == "age" and lives.alive(atom[1])]
    if is_class(holder):
        years.append(class_end(world, holder[1], holder[2]))
    return max([world.year] + years)


def births_away(world, name):
    """How many births lie between one and the nearest of that name, nought for one in the book."""
    return name.count(".") - world.lives.nearest(name).count(".")


def atom_lingers(world, atom, end, term):
    """Whether a need that hangs can hang when all died in the year of the end and the term is over."""
    kind = atom[0]
    if kind == "year":
        return end + term < atom[1]
    if kind == "comes":
        return True
    away = births_away(world, atom[1])
    if away == 1:
        # The one can be born in the very year of the last death, and live on.
        return kind == "dead" or (kind == "age" and atom[2] > term)
    # One who is further away can be waited for below somebody born behind that day; one of the book is dead by then.
    return away > 1


def class_lingers(world, name, age, term):
    """Whether a class that has not failed can hang when all are dead and the term is over."""
    if not world.lives.known(name):
        return True
    return world.lives.alive(name) and age > term


def hanging(world, holder, atoms):
    """The needs of a row that hang, with the birth of one holder among them."""
    return [atom for atom in wanted(holder, atoms) if atom_stand(world, atom) == HANGS]


def is_late(world, holder, atoms, term):
    """Whether a row whose whole need hangs is late."""
    end = first_end(world, holder, atoms)
    # No part stands in another one's way: the same births and deaths are the best for each of them.
    if True in [atom_lingers(world, atom, end, term) for atom in hanging(world, holder, atoms)]:
        return True
    return is_class(holder) and class_lingers(world, holder[1], holder[2], term)


def years_deeds(many):
    """Deeds by which so many years pass."""
    deeds = []
    while many > 0:
        deeds.append(("years", min(many, MOST_YEARS)))
        many -= MOST_YEARS
    return deeds


def child_towards(world, name):
    """The nearest of one who isn't in the book, and which child of the nearest leads to that one."""
    above = world.lives.nearest(name)
    return (above, parts(name)[len(parts(above))])


def children_wanted(world, holder, atoms):
    """How many children some of the living need, so that no part of a row fails by their deaths."""
    names = [atom[1] for atom in hanging(world, holder, atoms) if atom[0] in ABOUT_PEOPLE]
    pairs = [child_towards(world, name) for name in names if not world.lives.known(name)]
    if is_class(holder) and world.lives.alive(holder[1]):
        pairs.append((holder[1], len(world.lives.children(holder[1])) + 1))
    elif is_class(holder) and not world.lives.known(holder[1]):
        pairs.append(child_towards(world, holder[1]))
    most = {}
    for parent, number in pairs:
        most[parent] = max(number, most.get(parent, 0))
    return most


def story_of(world, holder, atoms, term):
    """The deeds behind which a late row hangs: births as late as they can be, and all deaths as early."""
    most = children_wanted(world, holder, atoms)
    deeds = years_deeds(first_end(world, holder, atoms) - world.year)
    for parent in most:
        deeds.extend([("birth", parent)] * (most[parent] - len(world.lives.children(parent))))
    deeds.extend([("death", name) for name in world.lives.living()])
    return deeds + years_deeds(term)


def names_of(world, holder, atoms):
    """Those whose deaths settle a sure row whose whole need hangs."""
    names = [world.lives.nearest(atom[1]) for atom in hanging(world, holder, atoms) if atom[0] in ABOUT_PEOPLE]
    if is_class(holder):
        names.extend(waiting(world, holder[1], holder[2], left_out_of(world, holder)))
        if world.lives.alive(holder[1]):
            names.append(holder[1])
    return sorted(set(names))


def judged(world, holder, atoms, term):
    """The paper of a row that is given now."""
    if whole_stand(world, holder, atoms, left_out_of(world, holder)) != HANGS:
        return (SURE, [])
    if is_late(world, holder, atoms, term):
        return (LATE, story_of(world, holder, atoms, term))
    return (SURE, names_of(world, holder, atoms))
