"""Heirs: to whom goes what one leaves."""

from deadhand.lives import parent_of
from deadhand.shares import mixed


def line(lives, name):
    """The ledger of one's line: that one alone, or the lines of the children of a dead one."""
    if lives.alive(name):
        return [(name, 1, 1)]
    stems = [line(lives, child) for child in lives.children(name)]
    filled = [stem for stem in stems if stem]
    return mixed(filled) if filled else []


def heirs(lives, name):
    """The ledger of one's heirs, the crown where no line is left upwards."""
    lives.want_known(name)
    root = name
    while root:
        found = line(lives, root)
        if found:
            return found
        root = parent_of(root)
    return [("crown", 1, 1)]
