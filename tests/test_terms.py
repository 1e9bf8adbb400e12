"""Sure and late rows, and their earliest ends (points 0.1, 0.2 and 16 to 18)."""

import copy
import random
import unittest

from deadhand.terms import first_end, judged
from deadhand.world import World
from helping import any_deed, grown, whole_world
from judging import any_atom, any_holder, check_future, check_paper, kids, one, out_of, whole

# In 1850: ann is 70, ann.1 died at 20, ann.2 is 50, ann.2.1 is 10; bob died in 1830 at 90, bob.1 is 30, bob.2 is 25;
# eve died without children; the war came in 1810.
DEEDS = [
    "arrive ann 20", "arrive bob 60", "arrive eve 5", "birth ann", "birth ann", "years 10", "comes war", "years 10",
    "death ann.1", "birth bob", "years 5", "birth bob", "death eve", "years 5", "death bob", "years 10", "birth ann.2",
    "years 10",
]
LIVING = ["ann", "ann.2", "bob.1", "bob.2", "ann.2.1"]


def family():
    return grown(1800, DEEDS)


class PaperCase(unittest.TestCase):

    def check(self, world, rows):
        """Each row is a holder, needs, a term, and the told names, or "late"."""
        for holder, atoms, term, want in rows:
            with self.subTest(holder, atoms=atoms, term=term):
                paper = check_paper(self, world, holder, atoms, term)
                self.assertEqual(paper if want != "late" else paper[0], want if want == "late" else ("sure", want))
                if paper[0] == "sure":
                    chance = random.Random(7)
                    for turn in range(15):
                        check_future(self, chance, world, holder, atoms, term, paper[1])


class HolderTest(PaperCase):

    def test_one_alive_without_needs(self):
        self.check(family(), [(one(name), [], term, []) for name in LIVING for term in (0, 21, 60)])

    def test_one_not_yet_born(self):
        self.check(family(), [
            (one("ann.3"), [], 0, ["ann"]), (one("ann.3"), [], 60, ["ann"]), (one("ann.99"), [], 0, ["ann"]),
            (one("ann.2.2"), [], 21, ["ann.2"]), (one("bob.1.1"), [], 0, ["bob.1"]),
            (one("ann.2.1.1"), [], 0, ["ann.2.1"]),
        ])

    def test_one_two_or_more_births_away(self):
        self.check(family(), [
            (one(name), [], term, "late") for term in (0, 21, 60) for name in (
                "ann.3.1", "ann.4.2", "ann.2.2.1", "bob.1.1.1", "ann.3.1.1", "ann.3.1.1.1", "ann.9.9.9.9.9",
                "ann.99.99.99.99.99", "ann.2.1.1.1.1")
        ])

    def test_class_of_one_who_lives(self):
        self.check(family(), [
            (kids("ann", 0), [], 0, ["ann"]), (kids("ann", 1), [], 0, "late"), (kids("ann", 21), [], 21, ["ann"]),
            (kids("ann", 22), [], 21, "late"), (kids("ann", 60), [], 60, ["ann", "ann.2"]),
            (kids("ann", 61), [], 60, "late"), (kids("ann", 120), [], 60, "late"),
            (kids("ann", 50), [], 50, ["ann"]), (kids("ann", 51), [], 51, ["ann", "ann.2"]),
            (kids("ann.2", 10), [], 10, ["ann.2"]), (kids("ann.2", 11), [], 11, ["ann.2", "ann.2.1"]),
            (kids("ann.2.1", 5), [], 5, ["ann.2.1"]), (kids("ann.2.1", 5), [], 4, "late"),
            (kids("bob.1", 0), [], 0, ["bob.1"]),
        ])

    def test_class_of_one_who_is_dead(self):
        self.check(family(), [
            (kids("bob", 0), [], 0, []), (kids("bob", 25), [], 0, []), (kids("bob", 26), [], 0, ["bob.2"]),
            (kids("bob", 31), [], 0, ["bob.1", "bob.2"]), (kids("bob", 120), [], 0, ["bob.1", "bob.2"]),
            (kids("bob", 120), [], 60, ["bob.1", "bob.2"]), (kids("eve", 0), [], 0, []), (kids("eve", 21), [], 0, []),
            (kids("ann.1", 21), [], 21, []),
        ])

    def test_class_of_one_who_may_still_come(self):
        self.check(family(), [
            (kids(name, age), [], term, "late") for age in (0, 21, 120) for term in (0, 21, 60)
            for name in ("ann.3", "ann.2.2", "ann.3.1", "bob.1.1.1", "ann.2.1.1.1", "ann.99.99.99.99")
        ])

    def test_class_without_those_left_out(self):
        world = grown(1800, ["arrive ann 40", "birth ann", "birth ann", "years 30", "death ann.1", "death ann"])
        # ann.1 had the age, but was dead already: ann.2 has to reach it.
        self.check(world, [
            (kids("ann", 20), [], 0, []), (kids("ann", 31), [], 0, ["ann.2"]),
            (kids("ann", 40), [("year", 1841)], 0, "late"), (kids("ann", 40), [("year", 1840)], 0, ["ann.2"]),
        ])
        world.death("ann.2")
        self.check(world, [(kids("ann", 20), [], 0, []), (kids("ann", 0), [("comes", "flood")], 0, [])])


class NeedTest(PaperCase):

    def test_year(self):
        world = family()
        self.check(world, [
            (one("ann"), [("year", 1850)], 0, []), (one("ann"), [("year", 1851)], 0, "late"),
            (one("ann"), [("year", 1851)], 1, []), (one("ann"), [("year", 1871)], 21, []),
            (one("ann"), [("year", 1872)], 21, "late"), (one("ann"), [("year", 1910)], 60, []),
            (one("ann"), [("year", 1911)], 60, "late"), (one("ann"), [("year", 0)], 0, []),
            (one("ann"), [("year", 9999)], 60, "late"),
            (one("ann.3"), [("year", 1851)], 1, ["ann"]), (one("ann.3"), [("year", 1852)], 1, "late"),
        ])

    def test_comes(self):
        self.check(family(), [
            (one("ann"), [("comes", "war")], 0, []), (one("ann"), [("comes", "flood")], 0, "late"),
            (one("ann"), [("comes", "flood")], 60, "late"), (one("ann"), [("comes", "ann")], 21, "late"),
            (kids("bob", 0), [("comes", "flood")], 60, "late"),
        ])

    def test_born(self):
        self.check(family(), [
            (one("bob.1"), [("born", "ann")], 0, []), (one("bob.1"), [("born", "ann.3")], 0, ["ann"]),
            (one("bob.1"), [("born", "ann.2.2")], 60, ["ann.2"]), (one("bob.1"), [("born", "ann.3.1")], 60, "late"),
            (one("bob.1"), [("born", "bob")], 0, []), (one("bob.1"), [("born", "bob.3")], 0, []),
            (one("bob.1"), [("born", "eve.1.1")], 0, []),
        ])

    def test_dead(self):
        self.check(family(), [
            (one("bob.1"), [("dead", "ann")], 0, ["ann"]), (one("bob.1"), [("dead", "bob.1")], 60, ["bob.1"]),
            (one("bob.1"), [("dead", "bob")], 0, []), (one("bob.1"), [("dead", "bob.3")], 0, []),
            (one("bob.1"), [("dead", "ann.3")], 0, "late"), (one("bob.1"), [("dead", "ann.3")], 60, "late"),
            (one("bob.1"), [("dead", "ann.3.1")], 21, "late"), (one("bob.1"), [("dead", "ann.1")], 21, []),
        ])

    def test_age(self):
        self.check(family(), [
            (one("bob.1"), [("age", "ann", 70)], 0, []), (one("bob.1"), [("age", "ann", 71)], 0, ["ann"]),
            (one("bob.1"), [("age", "ann", 120)], 0, ["ann"]), (one("bob.1"), [("age", "ann", 0)], 0, []),
            (one("bob.1"), [("age", "ann.1", 20)], 0, []), (one("bob.1"), [("age", "ann.1", 21)], 0, []),
            (one("bob.1"), [("age", "ann.3", 0)], 0, ["ann"]), (one("bob.1"), [("age", "ann.3", 1)], 0, "late"),
            (one("bob.1"), [("age", "ann.3", 21)], 21, ["ann"]), (one("bob.1"), [("age", "ann.3", 22)], 21, "late"),
            (one("bob.1"), [("age", "ann.3", 60)], 60, ["ann"]), (one("bob.1"), [("age", "ann.3", 61)], 60, "late"),
            (one("bob.1"), [("age", "ann.3", 120)], 60, "late"), (one("bob.1"), [("age", "ann.3.1", 0)], 60, "late"),
            (one("bob.1"), [("age", "bob.3", 0)], 60, []), (one("bob.1"), [("age", "eve.1.1", 5)], 60, []),
        ])

    def test_the_very_old(self):
        world = grown(5, ["arrive ann 120", "arrive bob 119", "arrive eve 118"])
        self.check(world, [
            (one("ann"), [("age", "ann", 120)], 0, []), (one("ann"), [("age", "bob", 120)], 0, ["bob"]),
            (one("ann"), [("age", "eve", 120), ("year", 7)], 0, ["eve"]),
            (one("ann"), [("age", "eve", 120), ("year", 8)], 0, "late"),
        ])
        world.pass_years(9)
        self.check(world, [(one("ann"), [("age", "bob", 120)], 0, []), (one("ann"), [("year", 14)], 0, [])])

    def test_the_same_need_twice_and_six(self):
        self.check(family(), [
            (one("ann"), [("age", "ann.3", 21)] * 2, 21, ["ann"]), (one("ann"), [("age", "ann.3", 21)] * 2, 20, "late"),
            (one("ann"), [("dead", "ann"), ("dead", "bob.2"), ("dead", "ann")], 0, ["ann", "bob.2"]),
            (one("ann.3"), [("born", "ann.3")], 0, ["ann"]), (one("ann.3.1"), [("born", "ann.3.1")] * 6, 0, "late"),
            (one("ann.3"), [("dead", "bob.2"), ("age", "ann.2.1", 11), ("born", "bob.1.1"), ("age", "bob.2.1", 9),
                            ("year", 1851), ("dead", "ann.2")], 9, ["ann", "ann.2", "ann.2.1", "bob.1", "bob.2"]),
            (one("ann.3"), [("dead", "bob.2"), ("age", "ann.2.1", 11), ("born", "bob.1.1"), ("age", "bob.2.1", 9),
                            ("year", 1851), ("dead", "ann.2")], 8, "late"),
        ])

    def test_the_order_of_texts(self):
        world = grown(1800, ["arrive ann 30"] + ["birth ann"] * 11 + ["arrive an 3", "arrive anna 3"])
        atoms = [("dead", name) for name in ("anna", "ann.2", "ann.11", "ann", "an")]
        self.check(world, [(one("ann"), atoms, 0, ["an", "ann", "ann.11", "ann.2", "anna"])])
        wait = sorted(f"ann.{number}" for number in range(1, 12))
        self.check(world, [(kids("ann", 21), [("dead", "ann.3")], 21, ["ann"] + wait)])


class TogetherTest(PaperCase):

    def test_a_part_that_is_late_by_itself(self):
        self.check(family(), [
            # Of itself the year is late; but ann.2.1 has to grow to 30 ahead of the last death.
            (one("ann"), [("year", 1860)], 0, "late"),
            (one("ann"), [("year", 1860), ("age", "ann.2.1", 30)], 0, ["ann.2.1"]),
            (one("ann"), [("year", 1870), ("age", "ann.2.1", 30)], 0, ["ann.2.1"]),
            (one("ann"), [("year", 1871), ("age", "ann.2.1", 30)], 0, "late"),
            (one("ann"), [("year", 1876), ("age", "ann.2.1", 30)], 5, "late"),
            (one("ann"), [("year", 1875), ("age", "ann.2.1", 30)], 5, ["ann.2.1"]),
            # Both have to be awaited, the later one counts.
            (one("ann"), [("year", 1880), ("age", "ann.2.1", 30), ("age", "bob.2", 55)], 0, ["ann.2.1", "bob.2"]),
            (one("ann"), [("year", 1881), ("age", "ann.2.1", 30), ("age", "bob.2", 55)], 0, "late"),
            # One who reached the age is not waited for.
            (one("ann"), [("year", 1851), ("age", "ann", 70)], 0, "late"),
        ])

    def test_a_class_of_a_dead_one_has_to_be_awaited(self):
        self.check(family(), [
            # bob.1 would be the first to be 40, in 1860.
            (kids("bob", 40), [("year", 1860)], 0, ["bob.1", "bob.2"]), (kids("bob", 40), [("year", 1861)], 0, "late"),
            (kids("bob", 40), [("year", 1866)], 6, ["bob.1", "bob.2"]), (kids("bob", 40), [("year", 1867)], 6, "late"),
            # bob.1 has a seat already, so nobody needs to be awaited.
            (kids("bob", 30), [("year", 1851)], 0, "late"), (kids("bob", 30), [("year", 1851)], 1, ["bob.2"]),
        ])

    def test_a_failed_part_settles_all(self):
        self.check(family(), [
            (one("ann"), [("comes", "flood"), ("born", "bob.3")], 0, []),
            (one("ann.3.1"), [("age", "ann.1", 21)], 0, []), (kids("ann", 120), [("dead", "bob.9")], 0, []),
            (kids("eve", 0), [("comes", "flood"), ("year", 9999)], 0, []),
            (one("ann"), [("year", 9999), ("age", "eve", 120), ("dead", "ann")], 60, []),
        ])

    def test_births_that_one_part_needs_and_another_waits_for(self):
        self.check(family(), [
            (one("ann.3"), [("dead", "ann.3")], 60, "late"), (one("ann.3"), [("dead", "ann")], 0, ["ann"]),
            (one("ann.3"), [("born", "ann.3.1")], 0, "late"), (one("ann.9"), [("age", "ann.3", 5)], 4, "late"),
            (one("ann.9"), [("age", "ann.3", 5)], 5, ["ann"]),
            (kids("ann", 5), [("born", "ann.9"), ("dead", "ann.4")], 5, "late"),
            (kids("ann", 5), [("born", "ann.9")], 5, ["ann"]), (kids("ann", 5), [("born", "ann.9")], 4, "late"),
            (kids("ann.3", 5), [("born", "ann.3")], 60, "late"),
            (kids("ann", 0), [("comes", "flood"), ("born", "ann.3.1"), ("born", "bob.2.4"), ("age", "ann.2", 120)], 9,
             "late"),
            (one("ann.2.1.1"), [("age", "ann", 75), ("dead", "ann.2.2"), ("year", 1900), ("comes", "flood")], 3, "late"),
        ])

    def test_nobody_alive(self):
        empty = grown(1800, ["arrive ann 20", "birth ann", "years 3", "death ann", "years 2", "death ann.1", "years 1"])
        rows = [(kids("ann", age), atoms, term, []) for age in (0, 21) for term in (0, 60) for atoms in (
            [], [("comes", "war")], [("year", 9999)], [("age", "ann", 120)], [("born", "ann.2"), ("dead", "ann")])]
        self.check(empty, rows)
        self.assertEqual(first_end(empty, kids("ann", 0), [("comes", "war")]), 1806)

    def test_a_longer_term(self):
        for holder, atoms, least in (
            (kids("ann", 37), [], 37), (one("ann"), [("year", 1887)], 37), (one("ann"), [("age", "ann.3", 37)], 37),
            (one("ann.3"), [("year", 1872), ("age", "ann.2.1", 30)], 2), (one("ann.3"), [], 0),
            (one("ann.3.1"), [], 61), (kids("bob", 120), [("year", 1945)], 5),
        ):
            for term in range(61):
                paper = check_paper(self, family(), holder, atoms, term)
                self.assertEqual(paper[0], "sure" if term >= least else "late", (holder, atoms, term))


class StoryTest(PaperCase):

    def test_many_people_and_a_far_name(self):
        world = grown(1800, ["arrive ann 30", "arrive bob 30"])
        for number in range(60):
            for name in ("ann", "bob", "ann.1", "bob.7"):
                if world.lives.alive(name):
                    world.birth(name)
        for holder, atoms in (
            (one("ann.99.99.99.99.99"), []), (kids("bob.7.99.99.99", 3), [("born", "ann.99"), ("born", "bob.99")]),
            (kids("ann", 61), [("born", f"ann.{number}.99") for number in range(1, 7)]),
            (one("ann.1.99"), [("dead", f"{name}.99") for name in ("ann", "bob", "ann.2", "bob.2", "ann.3", "bob.3")]),
        ):
            for term in (0, 59, 60):
                self.assertEqual(check_paper(self, world, holder, atoms, term)[0], "late")

    def test_two_thousand_people(self):
        world = grown(1800, ["arrive ann 30"])
        for number in range(20):
            child = world.birth("ann")
            for below in range(98):
                world.birth(child)
        self.assertEqual(len(world.lives.living()), 1981)
        atoms = [("born", f"ann.{number}.1.99") for number in range(1, 7)]
        self.assertEqual(check_paper(self, world, kids("ann.7", 120), atoms, 60)[0], "late")

    def test_no_more_children_than_a_name_can_count(self):
        world = grown(1800, ["arrive ann 30"] + ["birth ann"] * 60)
        story = judged(world, kids("ann", 30), [("born", "ann.99"), ("born", "ann.70")], 0)[1]
        self.assertEqual(story.count(("birth", "ann")), 39)

    def test_long_waits(self):
        world = grown(1800, ["arrive ann 0"])
        for term in (0, 1, 60):
            paper = check_paper(self, world, one("ann"), [("age", "ann", 120), ("comes", "war")], term)
            self.assertEqual(sum(deed[1] for deed in paper[1] if deed[0] == "years"), 120 + term)

    def test_a_clock_beyond_the_last_first_year(self):
        world = grown(9999, ["arrive ann 20", "years 60", "birth ann"])
        self.check(world, [
            (one("ann.2"), [], 0, ["ann"]), (kids("ann", 21), [], 20, "late"), (one("ann"), [("year", 9999)], 0, []),
            (one("ann"), [("comes", "war")], 60, "late"), (one("ann"), [("age", "ann.1", 120)], 0, ["ann.1"]),
        ])

    def test_told_and_handed_in_lists_that_are_changed(self):
        world = family()
        ahead = whole_world(world)
        atoms = [("comes", "flood"), ("born", "ann.4")]
        for holder in (one("ann.3"), kids("ann", 60), kids("bob", 40)):
            paper = judged(world, holder, atoms, 0)
            kept = copy.deepcopy(paper)
            paper[1].clear()
            self.assertEqual(judged(world, holder, atoms, 0), kept)
        sure = judged(world, kids("bob", 40), [], 0)
        sure[1].append("ann")
        self.assertEqual(judged(world, kids("bob", 40), [], 0), ("sure", ["bob.1", "bob.2"]))
        atoms.append(("dead", "ann"))
        self.assertEqual(kept, judged(world, kids("bob", 40), atoms[:2], 0))
        self.assertEqual(whole_world(world), ahead)


class FirstEndTest(unittest.TestCase):

    def test_without_such_a_need(self):
        world = family()
        for holder, atoms in (
            (one("ann.3"), []), (one("ann"), [("comes", "flood")]), (one("ann"), [("year", 9999)]),
            (one("ann"), [("dead", "ann.2"), ("age", "ann.3", 120)]), (kids("ann", 120), []), (kids("ann.3", 60), []),
            (kids("bob", 30), []), (kids("ann.3.1", 5), [("born", "ann.4")]),
        ):
            self.assertEqual(first_end(world, holder, atoms), 1850)

    def test_ages_of_the_living(self):
        world = family()
        for atoms, year in (
            ([("age", "ann", 71)], 1851), ([("age", "ann", 120)], 1900), ([("age", "ann.2.1", 120)], 1960),
            ([("age", "ann", 90), ("age", "bob.2", 44), ("age", "ann.2.1", 30)], 1870),
            ([("age", "ann", 71), ("age", "bob.2", 55), ("age", "ann.2.1", 30)], 1880),
            ([("age", "ann", 71), ("age", "bob.2", 44), ("age", "ann.2.1", 31), ("year", 1999)], 1871),
            ([("age", "ann", 5), ("dead", "ann"), ("age", "bob", 90)], 1850), ([("age", "ann.3", 90)], 1850),
        ):
            self.assertEqual(first_end(world, one("ann.3"), atoms), year)
            self.assertEqual(first_end(world, kids("ann", 120), atoms), year)

    def test_class_of_a_dead_one(self):
        world = family()
        for age, atoms, year in (
            (31, [], 1851), (40, [], 1860), (120, [], 1940), (26, [], 1850), (30, [], 1850),
            (40, [("age", "bob.2", 34)], 1860), (40, [("age", "bob.2", 36)], 1861), (26, [("age", "bob.2", 36)], 1861),
        ):
            self.assertEqual(first_end(world, kids("bob", age), atoms), year)
        world.death("bob.1")
        for age, year in ((26, 1851), (40, 1865), (120, 1945)):
            self.assertEqual(first_end(world, kids("bob", age), []), year)

    def test_a_wait_of_several(self):
        world = grown(1800, ["arrive ann 20", "birth ann", "years 3", "birth ann", "years 4", "birth ann", "death ann"])
        self.assertEqual(first_end(world, kids("ann", 20), []), 1820)
        world.death("ann.1")
        self.assertEqual(first_end(world, kids("ann", 20), []), 1823)
        world.pass_years(16)
        self.assertEqual(world.year, 1823)
        self.assertEqual(first_end(world, kids("ann", 20), []), 1823)
        self.assertEqual(first_end(world, kids("ann", 21), []), 1824)

    def test_nothing_is_changed(self):
        world = family()
        ahead, atoms = whole_world(world), [("age", "ann", 99)]
        first_end(world, kids("bob", 40), atoms)
        self.assertEqual((whole_world(world), atoms), (ahead, [("age", "ann", 99)]))


class DrawnTest(unittest.TestCase):

    def test_any_rows_of_any_worlds(self):
        papers = {"late": 0, "sure": 0, "named": 0}
        for seed in range(60):
            chance = random.Random(seed)
            world = World(chance.choice([0, 1800, 9990]))
            world.arrive("ann", chance.choice([0, 20, 120]))
            for turn in range(chance.choice([0, 3, 12, 40])):
                any_deed(chance, world)
            for turn in range(25):
                holder = any_holder(chance, world)
                if holder is None:
                    continue
                atoms = [any_atom(chance, world) for number in range(chance.choice([0, 0, 1, 1, 2, 3, 6]))]
                if chance.random() < 0.6:
                    # A row that has failed already says little.
                    atoms = [atom for atom in atoms if whole(world, holder, [atom], out_of(world, holder)) != "failed"]
                term = chance.choice([0, 1, 20, 21, 60])
                paper = check_paper(self, world, holder, atoms, term)
                papers[paper[0]] += 1
                if paper[0] == "sure":
                    papers["named"] += 1 if paper[1] else 0
                    for future in range(8 if paper[1] else 1):
                        check_future(self, chance, world, holder, atoms, term, paper[1])
                    self.assertEqual(judged(world, holder, atoms, chance.randint(term, 60))[0], "sure")
        self.assertGreater(min(papers.values()), 100)


if __name__ == "__main__":
    unittest.main()
