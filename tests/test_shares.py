"""Shares and ledgers (points 0.1, 0.2, 1 and 2)."""

import copy
import random
import unittest
from fractions import Fraction

from deadhand.errors import LandError, Short
from deadhand.shares import lowest, minus, mixed, passed, plus, put_in, share_of, taken, times
from helping import HUGE, refused_with

# Any texts may be names in a ledger; these are in the order of texts.
TEXTS = ["", "\n", " ", "!", "B", "a", "ann", "ann\n", "ann.1", "ann.10", "ann.2", "anna", "b", "crown", "~"]


def value(share):
    return Fraction(share[0], share[1])


def total(ledger):
    return sum((Fraction(num, den) for name, num, den in ledger), Fraction(0))


def as_dict(ledger):
    return {name: Fraction(num, den) for name, num, den in ledger}


def as_ledger(values):
    return [(name, values[name].numerator, values[name].denominator) for name in sorted(values) if values[name]]


def any_ledger(chance, most=6):
    names = chance.sample(TEXTS, chance.randint(0, most))
    return as_ledger({name: Fraction(chance.randint(1, 30), chance.randint(1, 30)) for name in names})


def whole_ledger(chance, names):
    weights = {name: chance.randint(1, 9) for name in names}
    whole = sum(weights.values())
    return as_ledger({name: Fraction(weights[name], whole) for name in names})


class ShareCase(unittest.TestCase):

    def check_share(self, share, wanted):
        self.assertIs(type(share), tuple)
        self.assertEqual(share, (wanted.numerator, wanted.denominator))
        self.assertEqual([type(number) for number in share], [int, int])

    def check_ledger(self, ledger, wanted):
        self.assertIs(type(ledger), list)
        for row in ledger:
            self.assertIs(type(row), tuple)
        self.assertEqual(ledger, as_ledger(wanted))


class LowestTest(ShareCase):

    def test_written_out(self):
        self.assertEqual(lowest(2, 4), (1, 2))
        self.assertEqual(lowest(4, 2), (2, 1))
        self.assertEqual(lowest(3, 7), (3, 7))
        self.assertEqual(lowest(1, 1), (1, 1))
        self.assertEqual(lowest(12, 12), (1, 1))
        self.assertEqual(lowest(84, 36), (7, 3))

    def test_all_small_numbers(self):
        for num in range(0, 40):
            for den in range(1, 40):
                self.check_share(lowest(num, den), Fraction(num, den))

    def test_nought(self):
        for den in (1, 2, 3, 100, HUGE, HUGE ** 3):
            self.assertEqual(lowest(0, den), (0, 1))

    def test_huge_numbers(self):
        chance = random.Random(1)
        for top in (10 ** 6, HUGE, HUGE ** 2, HUGE ** 5):
            for turn in range(60):
                num, den = chance.randint(0, top), chance.randint(1, top)
                self.check_share(lowest(num, den), Fraction(num, den))
        self.assertEqual(lowest(HUGE, HUGE), (1, 1))
        self.assertEqual(lowest(HUGE + 1, HUGE), (HUGE + 1, HUGE))
        self.assertEqual(lowest(1, HUGE), (1, HUGE))

    def test_both_multiplied_by_the_same(self):
        chance = random.Random(2)
        for turn in range(200):
            num, den = chance.randint(0, 50), chance.randint(1, 50)
            by = chance.choice([2, 3, 12, 99, HUGE, HUGE + 7, HUGE ** 2])
            self.assertEqual(lowest(num * by, den * by), lowest(num, den))


class SumsTest(ShareCase):

    def test_written_out(self):
        self.assertEqual(plus((1, 2), (1, 3)), (5, 6))
        self.assertEqual(plus((1, 2), (2, 4)), (1, 1))
        self.assertEqual(plus((3, 4), (3, 4)), (3, 2))
        self.assertEqual(minus((1, 2), (1, 3)), (1, 6))
        self.assertEqual(minus((2, 4), (1, 2)), (0, 1))
        self.assertEqual(times((2, 4), (2, 3)), (1, 3))
        self.assertEqual(times((5, 1), (1, 5)), (1, 1))

    def test_nought(self):
        for nought in ((0, 1), (0, 7)):
            self.assertEqual(plus(nought, nought), (0, 1))
            self.assertEqual(plus((6, 8), nought), (3, 4))
            self.assertEqual(plus(nought, (6, 8)), (3, 4))
            self.assertEqual(minus((6, 8), nought), (3, 4))
            self.assertEqual(minus(nought, nought), (0, 1))
            self.assertEqual(times((6, 8), nought), (0, 1))
            self.assertEqual(times(nought, (6, 8)), (0, 1))

    def test_against_fractions(self):
        chance = random.Random(3)
        for turn in range(600):
            top = chance.choice([3, 12, 100, HUGE, HUGE ** 2])
            one = (chance.randint(0, top), chance.randint(1, top))
            other = chance.choice([one, (chance.randint(0, top), chance.randint(1, top))])
            self.check_share(plus(one, other), value(one) + value(other))
            self.check_share(times(one, other), value(one) * value(other))
            if value(other) > value(one):
                refused_with(self, Short, minus, one, other)
            else:
                self.check_share(minus(one, other), value(one) - value(other))

    def test_minus_short(self):
        refused_with(self, Short, minus, (0, 1), (1, HUGE))
        refused_with(self, Short, minus, (1, 3), (2, 4))
        refused_with(self, Short, minus, (HUGE - 1, HUGE), (1, 1))
        with self.assertRaises(LandError):
            minus((1, 2), (2, 3))
        with self.assertRaises(ValueError):
            minus((1, 2), (2, 3))


class LedgerTest(ShareCase):

    def test_share_of(self):
        ledger = [("ann", 1, 3), ("bob", 2, 3)]
        self.assertEqual(share_of(ledger, "ann"), (1, 3))
        self.assertEqual(share_of(ledger, "bob"), (2, 3))
        self.assertEqual(share_of(ledger, "an"), (0, 1))
        self.assertEqual(share_of([], "ann"), (0, 1))
        self.assertEqual(share_of([], ""), (0, 1))
        self.assertIs(type(share_of(ledger, "ann")), tuple)

    def test_put_in(self):
        ledger = [("ann", 1, 3)]
        self.assertEqual(put_in([], "ann", (2, 4)), [("ann", 1, 2)])
        self.assertEqual(put_in(ledger, "ann", (2, 3)), [("ann", 1, 1)])
        self.assertEqual(put_in(ledger, "abe", (2, 3)), [("abe", 2, 3), ("ann", 1, 3)])
        self.assertEqual(put_in(ledger, "bob", (2, 3)), [("ann", 1, 3), ("bob", 2, 3)])
        self.assertEqual(put_in(ledger, "ann.1", (5, 3)), [("ann", 1, 3), ("ann.1", 5, 3)])

    def test_put_in_nought(self):
        ledger = [("ann", 1, 3)]
        for nought in ((0, 1), (0, 4)):
            self.assertEqual(put_in([], "ann", nought), [])
            self.assertEqual(put_in(ledger, "ann", nought), ledger)
            self.assertEqual(put_in(ledger, "bob", nought), ledger)

    def test_taken(self):
        ledger = [("ann", 1, 3), ("bob", 2, 3)]
        self.assertEqual(taken(ledger, "bob", (2, 6)), [("ann", 1, 3), ("bob", 1, 3)])
        self.assertEqual(taken(ledger, "ann", (2, 6)), [("bob", 2, 3)])
        self.assertEqual(taken([("ann", 1, 3)], "ann", (1, 3)), [])

    def test_taken_nought(self):
        ledger = [("ann", 1, 3)]
        for nought in ((0, 1), (0, 4)):
            self.assertEqual(taken([], "ann", nought), [])
            self.assertEqual(taken(ledger, "ann", nought), ledger)
            self.assertEqual(taken(ledger, "bob", nought), ledger)

    def test_taken_short(self):
        ledger = [("ann", 1, 3), ("bob", 2, 3)]
        refused_with(self, Short, taken, ledger, "ann", (HUGE + 1, 3 * HUGE))
        refused_with(self, Short, taken, ledger, "bob", (1, 1))
        refused_with(self, Short, taken, ledger, "eve", (1, HUGE))
        refused_with(self, Short, taken, [], "ann", (1, 100))
        self.assertEqual(ledger, [("ann", 1, 3), ("bob", 2, 3)])
        self.assertEqual(taken(ledger, "ann", (1, 3)), [("bob", 2, 3)])

    def test_names_in_the_order_of_texts(self):
        for turn in range(30):
            chance = random.Random(turn)
            ledger = []
            for name in chance.sample(TEXTS, len(TEXTS)):
                ledger = put_in(ledger, name, (1, 2))
            self.assertEqual(ledger, [(name, 1, 2) for name in TEXTS])
            for name in chance.sample(TEXTS, 5):
                ledger = taken(ledger, name, (1, 2))
                self.assertEqual(share_of(ledger, name), (0, 1))
            self.assertEqual([row[0] for row in ledger], sorted(row[0] for row in ledger))

    def test_against_fractions(self):
        chance = random.Random(4)
        for turn in range(600):
            ledger = any_ledger(chance)
            kept = copy.deepcopy(ledger)
            name = chance.choice(TEXTS)
            values = as_dict(ledger)
            had = values.get(name, Fraction(0))
            by = chance.randint(1, 4)
            part = chance.choice([had, had / 2, had + Fraction(1, HUGE), Fraction(chance.randint(0, 9), 9)])
            share = (part.numerator * by, part.denominator * by)
            self.check_share(share_of(ledger, name), had)
            self.check_ledger(put_in(ledger, name, share), {**values, name: had + part})
            if part > had:
                refused_with(self, Short, taken, ledger, name, share)
            else:
                self.check_ledger(taken(ledger, name, share), {**values, name: had - part})
            self.assertEqual(ledger, kept)


class PassedTest(ShareCase):

    def test_written_out(self):
        ledger = [("ann", 1, 2), ("bob", 1, 2)]
        halves = [("bob", 1, 2), ("eve", 1, 2)]
        self.assertEqual(passed(ledger, "ann", halves), [("bob", 3, 4), ("eve", 1, 4)])
        self.assertEqual(passed(ledger, "ann", [("crown", 1, 1)]), [("bob", 1, 2), ("crown", 1, 2)])
        self.assertEqual(passed(ledger, "bob", [("ann", 1, 1)]), [("ann", 1, 1)])

    def test_the_name_among_the_takers(self):
        ledger = [("ann", 1, 2), ("bob", 1, 2)]
        self.assertEqual(passed(ledger, "bob", [("bob", 1, 1)]), ledger)
        thirds = [("abe", 1, 3), ("bob", 2, 3)]
        self.assertEqual(passed(ledger, "bob", thirds), [("abe", 1, 6), ("ann", 1, 2), ("bob", 1, 3)])

    def test_a_name_with_no_share(self):
        ledger = [("ann", 1, 2), ("bob", 1, 2)]
        for takers in ([("ann", 1, 1)], [("ann", 1, 2), ("eve", 1, 2)], [("zoe", 1, 1)]):
            self.assertEqual(passed(ledger, "eve", takers), ledger)
            self.assertEqual(passed([], "eve", takers), [])

    def test_against_fractions(self):
        chance = random.Random(5)
        for turn in range(600):
            ledger = any_ledger(chance)
            name = chance.choice(TEXTS)
            takers = whole_ledger(chance, chance.sample(TEXTS, chance.randint(1, 6)))
            kept = copy.deepcopy((ledger, takers))
            wanted = as_dict(ledger)
            share = wanted.pop(name, Fraction(0))
            for taker, num, den in takers:
                wanted[taker] = wanted.get(taker, Fraction(0)) + share * Fraction(num, den)
            told = passed(ledger, name, takers)
            self.check_ledger(told, wanted)
            self.assertEqual(total(told), total(ledger))
            self.assertEqual((ledger, takers), kept)


class MixedTest(ShareCase):

    def test_written_out(self):
        one = [("ann", 1, 1)]
        other = [("ann", 1, 2), ("bob", 1, 2)]
        self.assertEqual(mixed([one]), one)
        self.assertEqual(mixed([other]), other)
        self.assertEqual(mixed([one, other]), [("ann", 3, 4), ("bob", 1, 4)])
        self.assertEqual(mixed([other, other, other]), other)
        self.assertEqual(mixed([[("bob", 1, 1)], one]), [("ann", 1, 2), ("bob", 1, 2)])

    def test_empty_ones(self):
        self.assertEqual(mixed([[]]), [])
        self.assertEqual(mixed([[], [], []]), [])
        self.assertEqual(mixed([[], [("ann", 1, 1)]]), [("ann", 1, 2)])
        self.assertEqual(mixed([[("ann", 1, 1)], [], []]), [("ann", 1, 3)])

    def test_against_fractions(self):
        chance = random.Random(6)
        for turn in range(400):
            ledgers = [any_ledger(chance, 5) for number in range(chance.randint(1, 5))]
            if chance.random() < 0.3:
                ledgers.append(ledgers[0])
            kept = copy.deepcopy(ledgers)
            wanted = {}
            for ledger in ledgers:
                for name, part in as_dict(ledger).items():
                    wanted[name] = wanted.get(name, Fraction(0)) + part / len(ledgers)
            self.check_ledger(mixed(ledgers), wanted)
            self.assertEqual(ledgers, kept)


class ToldListsTest(ShareCase):

    def answers(self, ledger, takers, ledgers):
        return [
            put_in(ledger, "bob", (1, 2)), put_in(ledger, "bob", (0, 1)),
            taken(ledger, "ann", (1, 2)), taken(ledger, "ann", (0, 1)),
            passed(ledger, "ann", takers), passed(ledger, "nobody", takers), passed(ledger, "ann", ledger),
            mixed(ledgers), mixed([ledger]),
        ]

    def test_a_changed_told_list_changes_nothing_else(self):
        ledger, takers = [("ann", 1, 1)], [("bob", 1, 2), ("eve", 1, 2)]
        ledgers = [ledger, takers]
        kept = copy.deepcopy((ledger, takers, ledgers))
        first = self.answers(ledger, takers, ledgers)
        wanted = copy.deepcopy(first)
        for number, told in enumerate(first):
            told.append(("zoe", 9, 1))
            told[0] = ("abe", 7, 1)
            self.assertEqual((ledger, takers, ledgers), kept)
            self.assertEqual(self.answers(ledger, takers, ledgers), wanted)
            self.assertEqual(first[number + 1:], wanted[number + 1:])

    def test_a_changed_handed_in_list_changes_nothing_told(self):
        ledger, takers = [("ann", 1, 1)], [("bob", 1, 2), ("eve", 1, 2)]
        ledgers = [ledger, takers]
        first = self.answers(ledger, takers, ledgers)
        wanted = copy.deepcopy(first)
        for handed in (ledger, takers, ledgers):
            handed.clear()
            self.assertEqual(first, wanted)


if __name__ == "__main__":
    unittest.main()
