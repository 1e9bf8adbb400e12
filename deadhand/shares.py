"""Shares, which are (num, den), and ledgers, which tell who has which share."""

from deadhand.errors import Short

NOUGHT = (0, 1)


def common(one, other):
    """The greatest number that divides both."""
    while other > 0:
        one, other = other, one % other
    return one


def lowest(num, den):
    """The share num / den in lowest terms."""
    divisor = common(num, den)
    return (num // divisor, den // divisor)


def plus(one, other):
    """The sum of two shares."""
    return lowest(one[0] * other[1] + other[0] * one[1], one[1] * other[1])


def minus(one, other):
    """What is left of one share without the other."""
    left = one[0] * other[1] - other[0] * one[1]
    if left < 0:
        raise Short("more is taken away than there is")
    return lowest(left, one[1] * other[1])


def times(one, other):
    """One share of the other share."""
    return lowest(one[0] * other[0], one[1] * other[1])


def held_in(ledger):
    """A dict of the names and shares of a ledger."""
    return {name: (num, den) for name, num, den in ledger}


def ledger_of(held):
    """The ledger of a dict of names and shares in lowest terms."""
    return [(name, held[name][0], held[name][1]) for name in sorted(held) if held[name] != NOUGHT]


def share_of(ledger, name):
    """The share that a name has in a ledger."""
    for other, num, den in ledger:
        if other == name:
            return (num, den)
    return NOUGHT


def put_in(ledger, name, share):
    """The ledger with so much more for a name."""
    held = held_in(ledger)
    held[name] = plus(held.get(name, NOUGHT), share)
    return ledger_of(held)


def taken(ledger, name, share):
    """The ledger with so much less for a name."""
    held = held_in(ledger)
    held[name] = minus(held.get(name, NOUGHT), share)
    return ledger_of(held)


def held_passed(held, name, takers):
    """A dict of names and shares in which a name's share has gone to the takers, to each its part."""
    after = dict(held)
    if name not in held:
        return after
    # The name gives all away ahead of the taking, since it may be among the takers.
    del after[name]
    # In a large family many have the same share and take the same part, so that few sums are to be reckoned.
    sums = {}
    for taker, num, den in takers:
        key = (after.get(taker, NOUGHT), num, den)
        if key not in sums:
            sums[key] = plus(key[0], times(held[name], (num, den)))
        after[taker] = sums[key]
    return after


def passed(ledger, name, takers):
    """The ledger in which a name's share has gone to the takers, to each its part."""
    return ledger_of(held_passed(held_in(ledger), name, takers))


def mixed(ledgers):
    """The ledger in which each name has the sum of its shares, divided by how many ledgers there are."""
    held = {}
    for ledger in ledgers:
        for name, num, den in ledger:
            held[name] = plus(held.get(name, NOUGHT), (num, den))
    part = (1, len(ledgers))
    return ledger_of({name: times(held[name], part) for name in held})
