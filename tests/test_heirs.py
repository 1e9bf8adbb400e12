"""The heirs (points 0.1, 0.2 and 5)."""

import random
import unittest
from fractions import Fraction

from deadhand.errors import NoPerson
from deadhand.heirs import heirs
from deadhand.lives import Lives
from deadhand.world import World
from helping import any_deed, any_name, grown, refused_with, whole_book

CROWN = [("crown", 1, 1)]


def family(deeds):
    """The book of a world in which ann arrived and deeds were done."""
    return grown(1800, ["arrive ann 20"] + deeds).lives


def births(name, many):
    return [f"birth {name}"] * many


class WrittenOutTest(unittest.TestCase):

    def test_of_the_living(self):
        lives = family(["birth ann", "birth ann", "birth ann.1", "death ann.2"])
        self.assertEqual(heirs(lives, "ann"), [("ann", 1, 1)])
        self.assertEqual(heirs(lives, "ann.1"), [("ann.1", 1, 1)])
        self.assertEqual(heirs(lives, "ann.1.1"), [("ann.1.1", 1, 1)])

    def test_of_the_dead_with_living_children(self):
        lives = family(["birth ann", "death ann"])
        self.assertEqual(heirs(lives, "ann"), [("ann.1", 1, 1)])
        lives = family(births("ann", 3) + ["death ann"])
        self.assertEqual(heirs(lives, "ann"), [("ann.1", 1, 3), ("ann.2", 1, 3), ("ann.3", 1, 3)])

    def test_a_living_child_takes_for_its_own_children(self):
        lives = family(births("ann", 2) + births("ann.1", 4) + ["death ann", "death ann.1.2"])
        self.assertEqual(heirs(lives, "ann"), [("ann.1", 1, 2), ("ann.2", 1, 2)])

    def test_a_dead_child_without_a_line_takes_nothing(self):
        lives = family(births("ann", 3) + ["death ann.2", "death ann"])
        self.assertEqual(heirs(lives, "ann"), [("ann.1", 1, 2), ("ann.3", 1, 2)])
        lives.birth("ann.3", 1800)
        lives.death("ann.3.1", 1800)
        lives.death("ann.3", 1800)
        self.assertEqual(heirs(lives, "ann"), [("ann.1", 1, 1)])

    def test_stems_of_unlike_size(self):
        deeds = births("ann", 3) + births("ann.2", 2) + births("ann.3", 3) + births("ann.3.1", 2)
        deeds += ["death ann.3.1", "death ann.3", "death ann.2", "death ann"]
        self.assertEqual(heirs(family(deeds), "ann"), [
            ("ann.1", 1, 3), ("ann.2.1", 1, 6), ("ann.2.2", 1, 6),
            ("ann.3.1.1", 1, 18), ("ann.3.1.2", 1, 18), ("ann.3.2", 1, 9), ("ann.3.3", 1, 9),
        ])

    def test_a_living_one_below_the_dead_alone(self):
        deeds = ["birth ann", "birth ann.1", "birth ann.1.1", "birth ann.1.1.1", "birth ann.1.1.1.1"]
        deeds += ["death ann", "death ann.1", "death ann.1.1", "death ann.1.1.1", "death ann.1.1.1.1"]
        lives = family(deeds)
        for name in lives.names():
            self.assertEqual(heirs(lives, name), [("ann.1.1.1.1.1", 1, 1)])

    def test_up_to_a_living_parent(self):
        lives = family(births("ann", 2) + ["birth ann.1", "death ann.1.1", "death ann.1"])
        # Not to the sister ann.2: the parent lives, and its line is that one alone.
        self.assertEqual(heirs(lives, "ann.1"), [("ann", 1, 1)])
        self.assertEqual(heirs(lives, "ann.1.1"), [("ann", 1, 1)])

    def test_up_to_the_line_of_a_dead_parent(self):
        deeds = births("ann", 3) + births("ann.2", 2) + ["death ann", "death ann.2", "death ann.1"]
        self.assertEqual(heirs(family(deeds), "ann.1"), [("ann.2.1", 1, 4), ("ann.2.2", 1, 4), ("ann.3", 1, 2)])

    def test_up_over_several(self):
        deeds = births("ann", 2) + ["birth ann.1", "birth ann.1.1", "birth ann.1.1.1"]
        deeds += ["death ann", "death ann.1", "death ann.1.1", "death ann.1.1.1", "death ann.1.1.1.1"]
        lives = family(deeds)
        for name in ("ann.1.1.1.1", "ann.1.1.1", "ann.1.1", "ann.1", "ann"):
            self.assertEqual(heirs(lives, name), [("ann.2", 1, 1)])
        lives.birth("ann.2", 1800)
        lives.death("ann.2", 1800)
        self.assertEqual(heirs(lives, "ann.1.1.1.1"), [("ann.2.1", 1, 1)])

    def test_the_nearest_line_upwards_is_taken(self):
        deeds = births("ann", 2) + births("ann.1", 2) + ["death ann.1.1", "death ann.1", "death ann"]
        self.assertEqual(heirs(family(deeds), "ann.1.1"), [("ann.1.2", 1, 1)])

    def test_the_crown(self):
        lives = family(["death ann"])
        self.assertEqual(heirs(lives, "ann"), CROWN)
        lives.arrive("bob", 1800)
        self.assertEqual(heirs(lives, "ann"), CROWN)
        lives = family(births("ann", 2) + ["birth ann.2", "death ann", "death ann.1", "death ann.2", "death ann.2.1"])
        for name in lives.names():
            self.assertEqual(heirs(lives, name), CROWN)

    def test_more_than_nine_children(self):
        lives = family(births("ann", 12) + ["death ann"])
        names = ["ann.1", "ann.10", "ann.11", "ann.12"] + [f"ann.{number}" for number in range(2, 10)]
        self.assertEqual(heirs(lives, "ann"), [(name, 1, 12) for name in names])
        lives.birth("ann.9", 1800)
        lives.birth("ann.9", 1800)
        lives.death("ann.9", 1800)
        lives.death("ann.11", 1800)
        wanted = [(name, 1, 11) for name in names if name not in ("ann.9", "ann.11")]
        self.assertEqual(heirs(lives, "ann"), wanted + [("ann.9.1", 1, 22), ("ann.9.2", 1, 22)])
        self.assertEqual(heirs(lives, "ann.11"), wanted + [("ann.9.1", 1, 22), ("ann.9.2", 1, 22)])

    def test_ninety_nine_children(self):
        lives = family(births("ann", 99) + ["death ann"])
        told = heirs(lives, "ann")
        self.assertEqual(told, sorted((f"ann.{number}", 1, 99) for number in range(1, 100)))

    def test_another_family_takes_no_part(self):
        lives = family(["arrive an 30", "arrive anna 30", "birth ann", "birth an", "birth anna", "death ann"])
        self.assertEqual(heirs(lives, "ann"), [("ann.1", 1, 1)])
        lives.death("ann.1", 1800)
        self.assertEqual(heirs(lives, "ann.1"), CROWN)


class RefusalsTest(unittest.TestCase):

    def test_nobody(self):
        lives = family(["birth ann", "birth ann", "death ann.2"])
        ahead = whole_book(lives)
        for name in ("eve", "eve.1", "ann.3", "ann.1.1", "ann.2.1", "ann.1.2.3.4.5", "an"):
            with self.subTest(name):
                refused_with(self, NoPerson, heirs, lives, name)
                self.assertEqual(whole_book(lives), ahead)
        refused_with(self, NoPerson, heirs, Lives(), "ann")

    def test_told_when_it_has_become_good(self):
        lives = family([])
        refused_with(self, NoPerson, heirs, lives, "ann.1")
        lives.birth("ann", 1801)
        self.assertEqual(heirs(lives, "ann.1"), [("ann.1", 1, 1)])


class ToldListsTest(unittest.TestCase):

    def test_that_are_changed(self):
        lives = family(births("ann", 2) + ["arrive bob 3", "arrive eve 4", "death ann", "death eve"])
        ahead = whole_book(lives)
        for name in lives.names():
            wanted = heirs(lives, name)
            told = heirs(lives, name)
            told[0] = ("zoe", 1, 2)
            told.append(("abe", 1, 2))
            self.assertEqual(heirs(lives, name), wanted)
            self.assertEqual(whole_book(lives), ahead)

    def test_that_stay_when_the_book_goes_on(self):
        lives = family(births("ann", 2) + ["death ann"])
        told = heirs(lives, "ann")
        lives.death("ann.1", 1801)
        self.assertEqual(told, [("ann.1", 1, 2), ("ann.2", 1, 2)])
        self.assertEqual(heirs(lives, "ann"), [("ann.2", 1, 1)])


def has_line(lives, name):
    return lives.alive(name) or any(has_line(lives, child) for child in lives.children(name))


def spread(lives, name, part):
    """From above: each one's part of the whole, as a dict of fractions."""
    if lives.alive(name):
        return {name: part}
    stems = [child for child in lives.children(name) if has_line(lives, child)]
    found = {}
    for child in stems:
        found.update(spread(lives, child, part / len(stems)))
    return found


def wanted_heirs(lives, name):
    pieces = name.split(".")
    for many in range(len(pieces), 0, -1):
        root = ".".join(pieces[:many])
        if has_line(lives, root):
            found = spread(lives, root, Fraction(1))
            return [(taker, found[taker].numerator, found[taker].denominator) for taker in sorted(found)]
    return CROWN


class RandomTest(unittest.TestCase):

    def test_any_families(self):
        for seed in range(25):
            chance = random.Random(seed)
            world = World(1800)
            for turn in range(120):
                any_deed(chance, world)
                lives = world.lives
                name = any_name(chance, lives.names())
                if not lives.known(name):
                    refused_with(self, NoPerson, heirs, lives, name)
                    continue
                told = heirs(lives, name)
                self.assertIs(type(told), list)
                self.assertEqual({type(row) for row in told}, {tuple})
                self.assertEqual(told, wanted_heirs(lives, name))
                self.assertEqual(sum(Fraction(num, den) for taker, num, den in told), 1)
                if lives.alive(name):
                    self.assertEqual(told, [(name, 1, 1)])


if __name__ == "__main__":
    unittest.main()
