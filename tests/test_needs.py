"""Needs, one and in lists (points 0.1, 0.2 and 7 to 9)."""

import copy
import random
import unittest

from deadhand.errors import NoPerson, NoText
from deadhand.needs import atom_since, atom_stand, over, since, stand
from deadhand.world import World
from helping import (
    HAPPENINGS, HUGE, NOT_WELL_WRITTEN, any_deed, any_placed_name, do, fate, grown, refused_with, wait, whole_world,
)

# In 1850: ann lives and is 70, ann.1 died at 20 in 1820, ann.2 lives and is 50, ann.2.1 was born in 1840;
# bob died in 1830 at 90, bob.1 is 30; the war came in 1810.
DEEDS = [
    "arrive ann 20", "arrive bob 60", "birth ann", "birth ann", "years 10", "comes war", "years 10", "death ann.1",
    "birth bob", "years 10", "death bob", "years 10", "birth ann.2", "years 10",
]


def family():
    return grown(1800, DEEDS)


class AtomCase(unittest.TestCase):

    def check(self, world, rows):
        """Each row is a need, how it stands, and the year in which it was settled."""
        for atom, how, year in rows:
            with self.subTest(atom):
                self.assertEqual(atom_stand(world, atom), how)
                self.assertEqual(atom_since(world, atom), year)
                self.assertEqual(stand(world, [atom]), how)
                self.assertEqual(since(world, [atom], -HUGE), year)
                self.assertIs(over(world, [atom]), how == "met")


class KindsTest(AtomCase):

    def test_year(self):
        self.check(family(), [
            (("year", 1850), "met", 1850), (("year", 1851), "hangs", None), (("year", 1849), "met", 1849),
            (("year", 0), "met", 0), (("year", 9999), "hangs", None), (("year", -3), "met", -3),
            (("year", 10001), "hangs", None),
        ])
        self.check(World(0), [(("year", 0), "met", 0), (("year", 1), "hangs", None)])

    def test_comes(self):
        world = family()
        self.check(world, [
            (("comes", "war"), "met", 1810), (("comes", "flood"), "hangs", None), (("comes", "ann"), "hangs", None),
        ])
        world.comes("flood")
        world.pass_years(9)
        self.check(world, [(("comes", "war"), "met", 1810), (("comes", "flood"), "met", 1850)])

    def test_comes_in_the_year_nought(self):
        self.check(grown(0, ["comes war", "years 3"]), [(("comes", "war"), "met", 0)])

    def test_born(self):
        self.check(family(), [
            (("born", "ann"), "met", 1780), (("born", "ann.1"), "met", 1800), (("born", "ann.2.1"), "met", 1840),
            (("born", "bob"), "met", 1740), (("born", "bob.1"), "met", 1820),
            (("born", "ann.3"), "hangs", None), (("born", "ann.99"), "hangs", None),
            (("born", "ann.4.1.2.3.4"), "hangs", None), (("born", "ann.2.2"), "hangs", None),
            (("born", "bob.1.1"), "hangs", None),
            (("born", "ann.1.1"), "failed", 1820), (("born", "ann.1.1.1.1.1"), "failed", 1820),
            (("born", "bob.2"), "failed", 1830), (("born", "bob.2.1"), "failed", 1830),
        ])

    def test_dead(self):
        self.check(family(), [
            (("dead", "ann"), "hangs", None), (("dead", "ann.2"), "hangs", None), (("dead", "bob.1"), "hangs", None),
            (("dead", "ann.1"), "met", 1820), (("dead", "bob"), "met", 1830),
            (("dead", "ann.3"), "hangs", None), (("dead", "ann.2.2.1"), "hangs", None),
            (("dead", "ann.1.1"), "failed", 1820), (("dead", "bob.2"), "failed", 1830),
            (("dead", "bob.11"), "failed", 1830),
        ])

    def test_age_of_the_living(self):
        self.check(family(), [
            (("age", "ann", 70), "met", 1850), (("age", "ann", 71), "hangs", None), (("age", "ann", 69), "met", 1849),
            (("age", "ann", 0), "met", 1780), (("age", "ann", 120), "hangs", None), (("age", "ann", 20), "met", 1800),
            (("age", "ann.2.1", 10), "met", 1850), (("age", "ann.2.1", 11), "hangs", None),
            (("age", "bob.1", 25), "met", 1845), (("age", "bob.1", 31), "hangs", None),
        ])

    def test_age_of_the_dead(self):
        self.check(family(), [
            (("age", "ann.1", 20), "met", 1820), (("age", "ann.1", 21), "failed", 1820),
            (("age", "ann.1", 19), "met", 1819), (("age", "ann.1", 0), "met", 1800),
            (("age", "ann.1", 50), "failed", 1820), (("age", "ann.1", 51), "failed", 1820),
            (("age", "bob", 90), "met", 1830), (("age", "bob", 91), "failed", 1830), (("age", "bob", 0), "met", 1740),
        ])

    def test_age_of_one_who_is_not_in_the_book(self):
        self.check(family(), [
            (("age", "ann.3", 0), "hangs", None), (("age", "ann.3", 21), "hangs", None),
            (("age", "bob.1.2.1", 5), "hangs", None), (("age", "ann.1.1", 0), "failed", 1820),
            (("age", "ann.1.2", 20), "failed", 1820), (("age", "bob.2", 120), "failed", 1830),
            (("age", "bob.3.1.1", 1), "failed", 1830),
        ])

    def test_ages_beyond_the_bounds(self):
        world = grown(0, ["arrive ann 120", "years 4"])
        self.check(world, [
            (("age", "ann", 124), "met", 4), (("age", "ann", 125), "hangs", None), (("age", "ann", 121), "met", 1),
            (("age", "ann", 120), "met", 0), (("age", "ann", 0), "met", -120), (("age", "ann", -1), "met", -121),
            (("born", "ann"), "met", -120),
        ])
        world.death("ann")
        self.check(world, [(("age", "ann", 125), "failed", 4), (("age", "ann", 124), "met", 4)])

    def test_death_in_the_year_of_the_birth(self):
        world = grown(1800, ["arrive ann 20", "birth ann", "death ann.1", "years 5"])
        self.check(world, [
            (("age", "ann.1", 0), "met", 1800), (("age", "ann.1", 1), "failed", 1800), (("dead", "ann.1"), "met", 1800),
            (("born", "ann.1"), "met", 1800), (("born", "ann.1.1"), "failed", 1800),
        ])

    def test_deaths_in_the_year_nought(self):
        world = grown(0, ["arrive ann 5", "birth ann", "death ann", "death ann.1", "years 9"])
        self.check(world, [
            (("dead", "ann"), "met", 0), (("age", "ann", 6), "failed", 0), (("born", "ann.2"), "failed", 0),
            (("age", "ann", 5), "met", 0), (("age", "ann.1", 0), "met", 0), (("born", "ann.1.1"), "failed", 0),
        ])

    def test_more_than_nine_children(self):
        world = grown(1800, ["arrive ann 20"] + ["birth ann"] * 11 + ["years 2", "death ann.10", "death ann.1"])
        self.check(world, [
            (("born", "ann.10"), "met", 1800), (("born", "ann.12"), "hangs", None),
            (("born", "ann.10.1"), "failed", 1802), (("born", "ann.1.1"), "failed", 1802),
            (("born", "ann.11.1"), "hangs", None), (("dead", "ann.10"), "met", 1802),
            (("dead", "ann.11"), "hangs", None), (("age", "ann.10", 3), "failed", 1802),
        ])


class OneNeedAsTheWorldGoesOnTest(AtomCase):

    def test_age_just_reached(self):
        world = grown(1800, ["arrive ann 20", "birth ann", "years 20"])
        need = ("age", "ann.1", 21)
        self.check(world, [(need, "hangs", None)])
        world.pass_years(1)
        self.check(world, [(need, "met", 1821)])
        world.pass_years(30)
        world.death("ann.1")
        world.pass_years(30)
        self.check(world, [(need, "met", 1821)])

    def test_age_one_year_short_at_the_death(self):
        for many, how, year in ((20, "failed", 1820), (21, "met", 1821), (22, "met", 1821)):
            world = grown(1800, ["arrive ann 20", "birth ann", f"years {many}", "death ann.1", "years 60"])
            self.check(world, [(("age", "ann.1", 21), how, year)])

    def test_one_who_may_still_be_born(self):
        world = grown(1800, ["arrive ann 20"])
        needs = [("born", "ann.2.1"), ("dead", "ann.2.1"), ("age", "ann.2.1", 3)]
        self.check(world, [(need, "hangs", None) for need in needs])
        for deed in ("birth ann", "birth ann", "death ann", "death ann.1", "years 5"):
            do(world, deed)
            self.check(world, [(need, "hangs", None) for need in needs])
        world.birth("ann.2")
        self.check(world, [(needs[0], "met", 1805), (needs[1], "hangs", None), (needs[2], "hangs", None)])
        world.pass_years(2)
        world.death("ann.2.1")
        self.check(world, [(needs[0], "met", 1805), (needs[1], "met", 1807), (needs[2], "failed", 1807)])

    def test_the_year_is_that_of_the_nearest_alone(self):
        world = grown(1800, ["arrive ann 20", "birth ann", "years 5", "death ann", "years 5", "birth ann.1"])
        self.check(world, [(("born", "ann.2"), "failed", 1805), (("born", "ann.1.2"), "hangs", None)])
        world.pass_years(1)
        world.death("ann.1")
        world.pass_years(1)
        world.death("ann.1.1")
        self.check(world, [
            (("born", "ann.2.1"), "failed", 1805), (("born", "ann.1.2"), "failed", 1811),
            (("born", "ann.1.1.1"), "failed", 1812), (("age", "ann.1.2.1", 0), "failed", 1811),
            (("dead", "ann.1.1.3.4"), "failed", 1812),
        ])


class RefusalsTest(AtomCase):

    def refused(self, world, kind, name):
        ahead = whole_world(world)
        for atom in (("born", name), ("dead", name), ("age", name, 0), ("age", name, 21)):
            for question in (atom_stand, atom_since):
                with self.subTest(atom, question=question.__name__):
                    refused_with(self, kind, question, world, atom)
                    self.assertEqual(whole_world(world), ahead)

    def test_names_that_are_not_well_written(self):
        texts = NOT_WELL_WRITTEN + [
            "eve.0", "eve.01", "eve.100", "eve..1", "eve.1.2.3.4.5.6", "bob.1.0", "kids.1", "ann.1 ", "ann.-1", "ann.2.",
        ]
        for world in (family(), World(0)):
            for text in texts:
                self.refused(world, NoText, text)

    def test_words_that_are_not_in_the_book(self):
        for name in ("eve", "eve.1", "eve.1.2.3.4.5", "an", "anna", "war", "war.1", "b"):
            self.refused(family(), NoPerson, name)
        self.refused(World(0), NoPerson, "ann")
        self.refused(World(0), NoPerson, "ann.1")

    def test_told_when_it_has_become_good(self):
        world = World(1800)
        self.refused(world, NoPerson, "ann.1")
        world.arrive("ann", 4)
        self.check(world, [(("born", "ann.1"), "hangs", None), (("born", "ann"), "met", 1796)])


MET = [("year", 1805), ("comes", "war"), ("born", "ann.2.1"), ("age", "ann.1", 20)]
FAILED = [("age", "ann.1", 21), ("born", "bob.2"), ("dead", "ann.1.1")]
HANGING = [("year", 1900), ("comes", "flood"), ("dead", "ann"), ("born", "ann.3")]


class ListsTest(unittest.TestCase):

    def check(self, atoms, how, day, year):
        world = family()
        for needs in (atoms, atoms[::-1], atoms + atoms):
            with self.subTest(needs, day=day):
                self.assertEqual(stand(world, needs), how)
                self.assertEqual(since(world, needs, day), year)

    def test_none_at_all(self):
        for world in (World(0), family()):
            self.assertEqual(stand(world, []), "met")
            self.assertIs(over(world, []), False)
            for day in (0, 1800, 9999, -20, 30000):
                self.assertEqual(since(world, [], day), day)

    def test_met(self):
        self.check(MET, "met", 0, 1840)
        self.check(MET, "met", 1840, 1840)
        self.check(MET, "met", 1841, 1841)
        self.check(MET[:2], "met", 1800, 1810)
        self.check(MET[:1], "met", 1800, 1805)
        self.check(MET[:1], "met", 1806, 1806)
        self.check(MET[:1] * 5, "met", 1805, 1805)
        self.check([("born", "bob")], "met", -5, 1740)

    def test_years_below_nought(self):
        world = grown(0, ["arrive ann 120", "arrive bob 50"])
        both = [("born", "ann"), ("born", "bob")]
        self.assertEqual(since(world, both, -200), -50)
        self.assertEqual(since(world, both, -60), -50)
        self.assertEqual(since(world, both, -7), -7)
        self.assertEqual(since(world, both, 0), 0)

    def test_hanging(self):
        for atom in HANGING:
            for day in (0, 1850, 9999):
                self.check([atom], "hangs", day, None)
                self.check(MET + [atom], "hangs", day, None)
        self.check(HANGING, "hangs", 1850, None)

    def test_failed(self):
        self.check([("born", "bob.2")], "failed", 1800, 1830)
        self.check([("born", "bob.2")], "failed", 1830, 1830)
        self.check([("born", "bob.2")], "failed", 1831, 1831)
        self.check(FAILED, "failed", 1800, 1820)
        self.check(FAILED, "failed", 1820, 1820)
        self.check(FAILED, "failed", 1821, 1821)
        self.check(FAILED, "failed", 1900, 1900)

    def test_failed_among_others(self):
        self.check(MET + [("born", "bob.2")], "failed", 1800, 1830)
        self.check(HANGING + [("born", "bob.2")], "failed", 1800, 1830)
        self.check(HANGING + MET + FAILED, "failed", 1700, 1820)
        self.check(HANGING + MET + FAILED, "failed", 1845, 1845)

    def test_ends(self):
        world = family()
        for ends in (MET, MET[:1], MET[:1] * 2, MET[:1] + HANGING, FAILED + MET[:1], HANGING + FAILED + MET[:1]):
            for row in (ends, ends[::-1]):
                self.assertIs(over(world, row), True)
        for ends in (HANGING, FAILED, HANGING + FAILED, HANGING[:1], FAILED[:1] * 3):
            for row in (ends, ends[::-1]):
                self.assertIs(over(world, row), False)

    def test_long_lists(self):
        world = family()
        many = [("year", number) for number in range(1500)]
        self.assertEqual((stand(world, many), since(world, many, 0), over(world, many)), ("met", 1499, True))
        many = [("year", 2000 + number) for number in range(1500)]
        self.assertEqual((stand(world, many), since(world, many, 0), over(world, many)), ("hangs", None, False))

    def test_handed_in_lists_stay_and_may_be_changed(self):
        world = family()
        atoms = MET + HANGING + FAILED
        kept, ahead = copy.deepcopy(atoms), whole_world(world)
        answers = (stand(world, atoms), since(world, atoms, 1800), over(world, atoms))
        self.assertEqual(answers, ("failed", 1820, True))
        self.assertEqual(atoms, kept)
        self.assertEqual(whole_world(world), ahead)
        atoms.clear()
        self.assertEqual((stand(world, atoms), since(world, atoms, 1800), over(world, atoms)), ("met", 1800, False))
        self.assertEqual((stand(world, kept), since(world, kept, 1800), over(world, kept)), answers)


def wanted_need(world, atom):
    """How a need stands and since when, reckoned by years alone."""
    if atom[0] == "year":
        return ("met", atom[1]) if atom[1] <= world.year else ("hangs", None)
    if atom[0] == "comes":
        return ("hangs", None) if world.came_in(atom[1]) is None else ("met", world.came_in(atom[1]))
    born, died = fate(world, atom[1])
    if born is None:
        return ("hangs", None) if died is None else ("failed", died)
    if atom[0] == "born":
        return ("met", born)
    if atom[0] == "age" and born + atom[2] <= (world.year if died is None else died):
        return ("met", born + atom[2])
    if died is None:
        return ("hangs", None)
    return ("met" if atom[0] == "dead" else "failed", died)


def wanted_list(world, atoms, day):
    found = [wanted_need(world, atom) for atom in atoms]
    lost = sorted(year for how, year in found if how == "failed")
    if lost:
        return ("failed", lost[0] if lost[0] > day else day)
    if ("hangs", None) in found:
        return ("hangs", None)
    return ("met", sorted([year for how, year in found] + [day])[-1])


def any_need(chance, world):
    """A need as a gift might bring it, about names whose word is in the book."""
    kind = chance.choice(["year", "comes", "born", "dead", "age", "age"])
    if kind == "year":
        return ("year", world.year + chance.randint(-10, 10))
    if kind == "comes" or not world.lives.names():
        return ("comes", chance.choice(HAPPENINGS))
    name = any_placed_name(chance, world)
    age = chance.choice([0, 1, 2, 5, 20, 21, 120, chance.randint(0, 130)])
    return ("age", name, age) if kind == "age" else (kind, name)


class RandomTest(unittest.TestCase):

    def check_lists(self, chance, world, needs):
        atoms = [chance.choice(needs) for number in range(chance.randint(0, 6))]
        day = world.year + chance.randint(-20, 5)
        how, year = wanted_list(world, atoms, day)
        self.assertEqual(stand(world, atoms), how)
        self.assertEqual(since(world, atoms, day), year)
        self.assertIs(over(world, atoms), any(wanted_need(world, atom)[0] == "met" for atom in atoms))

    def test_as_the_world_goes_on(self):
        for seed in range(20):
            chance = random.Random(seed)
            world, needs, stood = World(chance.choice([0, 3, 1800])), [("year", 0)], {}
            for turn in range(150):
                any_deed(chance, world)
                needs.append(any_need(chance, world))
                for atom in needs:
                    told = (atom_stand(world, atom), atom_since(world, atom))
                    self.assertEqual(told, wanted_need(world, atom))
                    # What was met or failed stays so, with its year; what hung is settled in the year of now.
                    was = stood.get(atom)
                    if was and was[0] != "hangs":
                        self.assertEqual(told, was)
                    elif was and told[0] != "hangs":
                        self.assertEqual(told[1], world.year)
                    stood[atom] = told
                self.check_lists(chance, world, needs)

    def lead_to(self, world, atom):
        """Do what meets a need that hangs."""
        kind, name = atom[0], atom[1]
        if kind == "year":
            return wait(world, name - world.year)
        if kind == "comes":
            return world.comes(name)
        while not world.lives.known(name):
            world.birth(world.lives.nearest(name))
        if kind == "age":
            wait(world, atom[2] - world.age(name))
        if kind == "dead":
            world.death(name)
        return None

    def test_what_hangs_can_still_be_met(self):
        for seed in range(150):
            chance = random.Random(seed)
            world = World(1800)
            for turn in range(chance.randint(1, 60)):
                any_deed(chance, world)
            atom = any_need(chance, world)
            if atom_stand(world, atom) == "hangs":
                self.lead_to(world, atom)
                self.assertEqual(atom_stand(world, atom), "met")


if __name__ == "__main__":
    unittest.main()
