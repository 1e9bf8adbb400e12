"""What stands against the rows of a gift, whatever they are given out of."""

from deadhand.errors import Gone, Never, TooDeep
from deadhand.layers import is_class
from deadhand.lives import MOST_NUMBERS, parts, want_word
from deadhand.needs import nearest_named
from deadhand.world import OLDEST, want_between

MOST_ROWS = 6
MOST_NEEDS = 6
LAST_YEAR = 9999


def want_written_atom(atom):
    """Refuse a need with a name or a word that isn't well written."""
    if atom[0] == "comes":
        want_word(atom[1])
    elif atom[0] != "year":
        parts(atom[1])


def want_written(rows):
    """Refuse rows in which a name or a word isn't well written."""
    for holder, needs, ends in rows:
        parts(holder[1])
        for atom in needs + ends:
            want_written_atom(atom)


def want_atom(world, atom):
    """Refuse a need or an end that can't be given."""
    kind = atom[0]
    if kind == "year":
        want_between(atom[1], 0, LAST_YEAR)
    elif kind != "comes":
        nearest_named(world, atom[1])
        if kind == "age":
            want_between(atom[2], 0, OLDEST)


def want_class(name, age):
    """Refuse a class that can't be given."""
    want_between(age, 0, OLDEST)
    if name.count(".") >= MOST_NUMBERS:
        raise TooDeep("one whose name has all numbers has no class of children")


def want_holder(world, holder):
    """Refuse a holder to whom nothing can be given."""
    name = holder[1]
    nearest_named(world, name)
    if world.lives.never(name):
        raise Never("one can never be born")
    if is_class(holder):
        want_class(name, holder[2])
    elif world.lives.known(name) and not world.lives.alive(name):
        raise Gone("a holder is dead")


def want_row(world, row):
    """Refuse a row that can't be given."""
    holder, needs, ends = row
    want_holder(world, holder)
    want_between(len(needs), 0, MOST_NEEDS)
    want_between(len(ends), 0, MOST_NEEDS)
    for atom in needs + ends:
        want_atom(world, atom)


def want_rows(world, rows):
    """Refuse rows that can't be given, each of them well written."""
    want_between(len(rows), 1, MOST_ROWS)
    for row in rows:
        want_row(world, row)
