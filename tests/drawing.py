"""Deeds on a realm that chance draws."""

import random

from helping import any_name

WORDS = ["ann", "bob", "eve"]
LANDS = ["hill", "dale", "ann"]
BAD_NAMES = ["", "crown", "ann.0", "kids.1", "ann.1.1.1.1.1.1", "zoe", "zoe.1"]
PLAIN = ("birth", "birth", "birth", "birth", "death", "years", "years", "comes", "arrive")
ON_LANDS = ("land", "gift", "gift", "gift", "gift", "gift", "sell", "drop", "drop")


class Drawn:
    """Deeds that chance draws for a realm, most of them such that they may be done."""

    def __init__(self, seed, model):
        self.chance = random.Random(seed)
        self.model = model
        self.odd = self.chance.choice([0.0, 0.05, 0.2])

    def strange(self):
        return self.chance.random() < self.odd

    def living(self):
        names = [found[0] for found in self.model.book.rows if found[2] is None]
        return self.chance.choice(names) if names else "ann"

    def any_name(self):
        if self.strange():
            return self.chance.choice(BAD_NAMES)
        names = [found[0] for found in self.model.book.rows]
        if self.chance.random() < 0.8:
            # One who is in the book, or may be a child or a grandchild of such a one.
            name = self.chance.choice(names) + self.chance.choice(["", "", ".1", ".2", ".3", ".2.1"])
            return name if name.count(".") <= 5 else names[0]
        return any_name(self.chance, names)

    def name(self):
        """One who lives, mostly."""
        return self.any_name() if self.strange() else self.living()

    def atom(self):
        kind = self.chance.choice(["year", "comes", "born", "dead", "age", "age"])
        if kind == "year":
            return (kind, self.chance.choice([-1, 0, 9999, 10000]) if self.strange()
                    else self.model.year + self.chance.randint(-3, 12))
        if kind == "comes":
            return (kind, self.chance.choice(["war", "flood", "Bad" if self.strange() else "war"]))
        if kind != "age":
            return (kind, self.any_name())
        return (kind, self.any_name(), self.chance.choice([-1, 120, 121] if self.strange() else [0, 1, 3, 5, 10]))

    def atoms(self, most):
        return [self.atom() for number in range(7 if self.strange() else self.chance.randint(0, most))]

    def holder(self):
        name = self.any_name() if self.chance.random() < 0.3 else self.living() + self.chance.choice(["", "", ".2"])
        if self.chance.random() < 0.6 or name.count(".") > 4:
            return ("one", name)
        return ("kids", name, self.chance.choice([-1, 120, 121] if self.strange() else [0, 0, 1, 2, 4]))

    def rows(self):
        many = self.chance.choice([0, 6, 7]) if self.strange() else self.chance.choice([1, 1, 2, 3])
        return [(self.holder(), self.atoms(2), self.atoms(1)) for number in range(many)]

    def place(self):
        word = self.chance.choice(list(self.model.lands) or LANDS)
        layers = self.model.lands.get(word, [])
        if self.strange():
            return self.chance.choice(LANDS), self.chance.choice([-1, 0, 1, len(layers)])
        return word, self.chance.randint(0, max(0, len(layers) - 1))

    def owner(self, word, number):
        """One who owns the whole of a layer, if there is such a one and chance wants it."""
        layers = self.model.lands.get(word, [])
        if number in range(len(layers)) and not self.strange():
            seats = list(layers[number].seats.values())
            names = [name for name in seats[0] if seats[0][name]] if seats else []
            if names:
                return self.chance.choice(names)
        return self.name()

    def seat(self, word, number):
        layers = self.model.lands.get(word, [])
        seats = list(layers[number].seats) if number in range(len(layers)) else []
        return self.chance.choice(seats) if seats and not self.strange() else self.any_name()

    def seller(self, word, number, seat):
        layers = self.model.lands.get(word, [])
        shares = layers[number].seats.get(seat, {}) if number in range(len(layers)) else {}
        names = [name for name in shares if shares[name]]
        return self.chance.choice(names) if names and not self.strange() else self.name()

    def deed(self):
        kind = self.chance.choice(PLAIN + ON_LANDS)
        if kind in ("birth", "death"):
            return (kind, self.name())
        if kind == "years":
            return (kind, self.chance.choice([0, 61, -1]) if self.strange() else self.chance.choice([1, 1, 2, 5]))
        if kind == "comes":
            return (kind, self.chance.choice(["war", "flood", "crown", "w.1"]))
        if kind == "arrive":
            return (kind, self.chance.choice(WORDS), self.chance.choice([0, 3, 20, 121]))
        if kind == "land":
            return (kind, self.chance.choice(LANDS + ["Hill"]), self.name(), self.chance.choice([1, 7, 1000, 1001]))
        word, number = self.place()
        if kind == "gift":
            return (kind, word, number, self.owner(word, number), self.rows())
        if kind == "drop":
            return (kind, word, number, self.owner(word, number))
        seat = self.seat(word, number)
        part = self.chance.choice([(0, 1), (2, 1), (1, 101), (-1, 3)] if self.strange() else [(1, 1), (1, 2), (2, 6)])
        return (kind, word, number, seat, self.seller(word, number, seat), self.name(), *part)
