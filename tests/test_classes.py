"""Classes (points 0.1, 0.2 and 10)."""

import random
import unittest

from deadhand.classes import class_since, class_stand, left_out, seats, waiting
from deadhand.world import World
from helping import any_deed, any_placed_name, do, fate, grown, whole_world

# In 1850: ann lives; ann.1 died in 1820 at 20, ann.2 lives and is 50, ann.3 died in 1825 at 5, ann.4 lives and is 21,
# ann.5 lives and is 20.
DEEDS = [
    "arrive ann 20", "birth ann", "birth ann", "years 20", "birth ann", "death ann.1", "years 5", "death ann.3",
    "years 4", "birth ann", "years 1", "birth ann", "years 20",
]


class ClassCase(unittest.TestCase):

    def check(self, world, name, age, out, held, wait):
        self.assertEqual(seats(world, name, age, out), held)
        self.assertEqual(waiting(world, name, age, out), wait)

    def check_settled(self, world, name, age, out, how, year, day=0):
        self.assertEqual(class_stand(world, name, age, out), how)
        self.assertEqual(class_since(world, name, age, out, day), year)


class MembersTest(ClassCase):

    def test_left_out(self):
        world = grown(1850, ["arrive ann 20"])
        self.assertEqual(left_out(world, "ann"), [])
        for deed in ("birth ann", "birth ann", "birth ann", "birth ann.1", "birth ann.1"):
            do(world, deed)
        self.assertEqual(left_out(world, "ann"), [])
        for deed in ("death ann.1.1", "death ann.3", "death ann.1"):
            do(world, deed)
        self.assertEqual(left_out(world, "ann"), ["ann.1", "ann.3"])
        self.assertEqual(left_out(world, "ann.1"), ["ann.1.1"])
        self.assertEqual(left_out(world, "ann.2"), [])
        do(world, "death ann")
        self.assertEqual(left_out(world, "ann"), ["ann.1", "ann.3"])

    def test_seats_and_those_that_wait(self):
        world = grown(1800, DEEDS)
        self.check(world, "ann", 21, [], ["ann.2", "ann.4"], ["ann.5"])
        self.check(world, "ann", 20, [], ["ann.1", "ann.2", "ann.4", "ann.5"], [])
        self.check(world, "ann", 22, [], ["ann.2"], ["ann.4", "ann.5"])
        self.check(world, "ann", 5, [], ["ann.1", "ann.2", "ann.3", "ann.4", "ann.5"], [])
        self.check(world, "ann", 6, [], ["ann.1", "ann.2", "ann.4", "ann.5"], [])
        self.check(world, "ann", 0, [], ["ann.1", "ann.2", "ann.3", "ann.4", "ann.5"], [])
        self.check(world, "ann", 50, [], ["ann.2"], ["ann.4", "ann.5"])
        self.check(world, "ann", 51, [], [], ["ann.2", "ann.4", "ann.5"])
        self.check(world, "ann", 120, [], [], ["ann.2", "ann.4", "ann.5"])

    def test_without_those_left_out(self):
        world = grown(1800, DEEDS)
        self.check(world, "ann", 20, ["ann.1", "ann.3"], ["ann.2", "ann.4", "ann.5"], [])
        self.check(world, "ann", 0, ["ann.1", "ann.3"], ["ann.2", "ann.4", "ann.5"], [])
        self.check(world, "ann", 21, ["ann.5", "ann.2"], ["ann.4"], [])
        self.check(world, "ann", 51, ["ann.4"], [], ["ann.2", "ann.5"])
        self.check(world, "ann", 0, ["ann.3", "ann.5", "ann.1", "ann.2", "ann.4"], [], [])

    def test_the_year_in_which_the_age_is_reached(self):
        world = grown(1800, ["arrive ann 20", "birth ann", "years 20"])
        self.check(world, "ann", 21, [], [], ["ann.1"])
        do(world, "years 1")
        self.check(world, "ann", 21, [], ["ann.1"], [])
        do(world, "death ann.1")
        do(world, "years 9")
        self.check(world, "ann", 21, [], ["ann.1"], [])
        self.check(world, "ann", 22, [], [], [])

    def test_more_than_nine_children(self):
        world = grown(1800, ["arrive ann 20"] + ["birth ann"] * 12 + ["years 5"])
        names = [f"ann.{number}" for number in range(1, 13)]
        self.check(world, "ann", 5, [], names, [])
        self.check(world, "ann", 6, [], [], names)
        self.check(world, "ann", 5, ["ann.1"], names[1:], [])
        self.check(world, "ann", 6, ["ann.10", "ann.12"], [], names[:9] + ["ann.11"])
        for name in ("ann.11", "ann.2", "ann.10", "ann.9"):
            do(world, f"death {name}")
        self.assertEqual(left_out(world, "ann"), ["ann.2", "ann.9", "ann.10", "ann.11"])

    def test_grandchildren_are_no_members(self):
        world = grown(1800, ["arrive ann 60", "birth ann", "birth ann.1", "years 30"])
        self.check(world, "ann", 21, [], ["ann.1"], [])
        self.check(world, "ann.1", 21, [], ["ann.1.1"], [])
        self.check(world, "ann.1.1", 21, [], [], [])

    def test_of_one_who_is_not_in_the_book(self):
        world = grown(1800, DEEDS)
        for name in ("ann.6", "ann.1.1", "ann.2.1.1", "ann.99.1.1.1"):
            self.assertEqual(left_out(world, name), [])
            self.check(world, name, 0, [], [], [])


class StandTest(ClassCase):

    def test_while_that_one_lives_it_hangs(self):
        world = grown(1800, DEEDS)
        for age in (0, 5, 20, 21, 22, 50, 120):
            for out in ([], ["ann.1", "ann.3"], ["ann.1", "ann.2", "ann.3", "ann.4", "ann.5"]):
                self.check_settled(world, "ann", age, out, "hangs", None)
                self.check_settled(world, "ann", age, out, "hangs", None, day=9999)
        self.check_settled(world, "ann.2", 21, [], "hangs", None)

    def test_while_a_member_waits_it_hangs(self):
        world = grown(1800, DEEDS + ["death ann"])
        self.check_settled(world, "ann", 21, [], "hangs", None)
        self.check_settled(world, "ann", 51, [], "hangs", None)
        self.check_settled(world, "ann", 51, ["ann.2", "ann.4"], "hangs", None)

    def test_met(self):
        world = grown(1800, DEEDS + ["death ann", "years 7"])
        self.check_settled(world, "ann", 20, [], "met", 1850)
        self.check_settled(world, "ann", 21, [], "met", 1851)
        self.check_settled(world, "ann", 21, ["ann.5"], "met", 1850)
        self.check_settled(world, "ann", 27, [], "met", 1857)
        self.check_settled(world, "ann", 27, ["ann.5"], "met", 1856)
        self.check_settled(world, "ann", 28, ["ann.4", "ann.5"], "met", 1850)
        self.check_settled(world, "ann", 57, ["ann.4", "ann.5"], "met", 1857)
        self.check_settled(world, "ann", 20, ["ann.2", "ann.3", "ann.4", "ann.5"], "met", 1850)

    def test_the_day(self):
        world = grown(1800, DEEDS + ["death ann", "years 7"])
        for day, year in ((1800, 1851), (1850, 1851), (1851, 1851), (1852, 1852), (9999, 9999), (-4, 1851)):
            self.check_settled(world, "ann", 21, [], "met", year, day=day)
        for day, year in ((1800, 1850), (1850, 1850), (1851, 1851)):
            self.check_settled(world, "ann", 21, ["ann.2", "ann.4", "ann.5"], "failed", year, day=day)

    def test_failed(self):
        world = grown(1800, DEEDS + ["death ann"])
        everybody = ["ann.1", "ann.2", "ann.3", "ann.4", "ann.5"]
        self.check_settled(world, "ann", 0, everybody, "failed", 1850)
        self.check_settled(world, "ann", 21, ["ann.2", "ann.4", "ann.5"], "failed", 1850)
        self.check_settled(world, "ann", 20, ["ann.1", "ann.2", "ann.4", "ann.5"], "failed", 1850)
        for deed in ("years 3", "death ann.5", "years 1", "death ann.4", "years 1", "death ann.2", "years 9"):
            do(world, deed)
        self.check_settled(world, "ann", 56, [], "failed", 1855)
        self.check_settled(world, "ann", 56, ["ann.2"], "failed", 1854)
        self.check_settled(world, "ann", 56, ["ann.2", "ann.4"], "failed", 1853)
        self.check_settled(world, "ann", 55, [], "met", 1855)
        self.check_settled(world, "ann", 54, [], "met", 1854)
        self.check_settled(world, "ann", 25, [], "met", 1854)
        self.check_settled(world, "ann", 26, ["ann.4"], "met", 1853)

    def test_a_member_that_died_too_young_settles_at_its_death(self):
        world = grown(1800, ["arrive ann 20", "birth ann", "birth ann", "death ann", "years 10"])
        self.check_settled(world, "ann", 10, [], "met", 1810)
        self.check_settled(world, "ann", 11, [], "hangs", None)
        do(world, "death ann.1")
        self.check_settled(world, "ann", 11, [], "hangs", None)
        self.check_settled(world, "ann", 11, ["ann.2"], "failed", 1810)
        do(world, "years 1")
        self.check_settled(world, "ann", 11, [], "met", 1811)
        self.check_settled(world, "ann", 11, ["ann.2"], "failed", 1810)
        do(world, "death ann.2")
        do(world, "years 5")
        self.check_settled(world, "ann", 11, [], "met", 1811)
        self.check_settled(world, "ann", 12, [], "failed", 1811)
        self.check_settled(world, "ann", 10, [], "met", 1810)

    def test_a_seat_ahead_of_the_death_of_that_one(self):
        world = grown(1800, ["arrive ann 20", "birth ann", "years 30", "death ann.1", "years 12", "death ann", "years 5"])
        self.check_settled(world, "ann", 30, [], "met", 1842)
        self.check_settled(world, "ann", 31, [], "failed", 1842)
        self.check_settled(world, "ann", 21, ["ann.1"], "failed", 1842)

    def test_of_one_without_children(self):
        world = grown(0, ["arrive ann 20"])
        self.check_settled(world, "ann", 0, [], "hangs", None, day=-3)
        do(world, "death ann")
        do(world, "years 9")
        self.check_settled(world, "ann", 0, [], "failed", 0, day=-3)
        self.check_settled(world, "ann", 21, [], "failed", 0, day=0)
        self.check_settled(world, "ann", 21, [], "failed", 4, day=4)

    def test_of_one_who_may_still_come(self):
        world = grown(1800, ["arrive ann 20"])
        for name in ("ann.1", "ann.2", "ann.2.1.1.1"):
            self.check_settled(world, name, 0, [], "hangs", None)
        for deed in ("birth ann", "birth ann", "years 2", "death ann"):
            do(world, deed)
        self.check_settled(world, "ann.2", 0, [], "hangs", None)
        self.check_settled(world, "ann.2.1", 0, [], "hangs", None)
        for deed in ("years 2", "birth ann.2", "birth ann.2.1", "death ann.2.1", "years 1", "death ann.2"):
            do(world, deed)
        self.check_settled(world, "ann.2", 0, [], "met", 1805)
        self.check_settled(world, "ann.2.1", 0, [], "met", 1804)
        self.check_settled(world, "ann.2.1", 4, [], "hangs", None)
        self.check_settled(world, "ann.2.1.1", 0, [], "hangs", None)
        do(world, "years 3")
        self.check_settled(world, "ann.2.1", 4, [], "met", 1808)

    def test_of_one_who_never_can_come(self):
        world = grown(1800, ["arrive ann 20", "birth ann", "years 5", "death ann", "years 5", "death ann.1", "years 5"])
        for age in (0, 21):
            self.check_settled(world, "ann.2", age, [], "failed", 1805)
            self.check_settled(world, "ann.2.1.1", age, [], "failed", 1805)
            self.check_settled(world, "ann.1.1", age, [], "failed", 1810)
            self.check_settled(world, "ann.1.7.8.9", age, [], "failed", 1810)
            self.check_settled(world, "ann.1.1", age, [], "failed", 1812, day=1812)

    def test_children_of_one_with_four_numbers(self):
        world = grown(1800, ["arrive ann 60", "birth ann", "birth ann.1", "birth ann.1.1", "birth ann.1.1.1"])
        do(world, "birth ann.1.1.1.1")
        self.check_settled(world, "ann.1.1.1.1", 3, [], "hangs", None)
        do(world, "death ann.1.1.1.1")
        self.check_settled(world, "ann.1.1.1.1", 3, [], "hangs", None)
        do(world, "years 3")
        self.check_settled(world, "ann.1.1.1.1", 3, [], "met", 1803)


class ListsTest(ClassCase):

    def test_told_lists_that_are_changed(self):
        world = grown(1800, DEEDS)
        ahead = whole_world(world)
        for ask in (
            lambda: left_out(world, "ann"), lambda: seats(world, "ann", 21, []), lambda: waiting(world, "ann", 51, []),
            lambda: seats(world, "ann", 0, []), lambda: left_out(world, "ann.2"), lambda: seats(world, "ann.9", 0, []),
        ):
            wanted, told = ask(), ask()
            told.append("zoe")
            told[0] = "abe"
            self.assertEqual(ask(), wanted)
            self.assertEqual(whole_world(world), ahead)

    def test_handed_in_lists_stay_and_may_be_changed(self):
        world = grown(1800, DEEDS + ["death ann", "years 9"])
        out = ["ann.1", "ann.3"]
        ahead = whole_world(world)
        held, wait = seats(world, "ann", 29, out), waiting(world, "ann", 51, out)
        self.assertEqual(class_stand(world, "ann", 29, out), "met")
        self.assertEqual(class_since(world, "ann", 29, out, 0), 1859)
        self.assertEqual(out, ["ann.1", "ann.3"])
        self.assertEqual(whole_world(world), ahead)
        out.clear()
        self.assertEqual((held, wait), (["ann.2", "ann.4", "ann.5"], ["ann.4", "ann.5"]))
        self.assertEqual(seats(world, "ann", 5, out), ["ann.1", "ann.2", "ann.3", "ann.4", "ann.5"])

    def test_told_lists_stay_when_the_world_goes_on(self):
        world = grown(1800, DEEDS)
        out, held, wait = left_out(world, "ann"), seats(world, "ann", 21, []), waiting(world, "ann", 21, [])
        for deed in ("years 5", "death ann.2", "birth ann", "death ann.5"):
            do(world, deed)
        self.assertEqual((out, held, wait), (["ann.1", "ann.3"], ["ann.2", "ann.4"], ["ann.5"]))


def wanted_class(world, name, age, out, day):
    """Seats, those that wait, how a class stands and since when, reckoned by years alone."""
    born, ended = fate(world, name)
    held, wait, years = [], [], [day, ended]
    for child in [] if born is None else world.lives.children(name):
        first, last = fate(world, child)
        if child in out:
            continue
        if first + age <= (world.year if last is None else last):
            held.append(child)
            years.append(first + age)
        elif last is None:
            wait.append(child)
        else:
            years.append(last)
    if ended is None or wait:
        return (held, wait, "hangs", None)
    return (held, wait, "met" if held else "failed", sorted(years)[-1])


class RandomTest(ClassCase):

    def check_all(self, world, name, age, out, day):
        told = (
            seats(world, name, age, out), waiting(world, name, age, out), class_stand(world, name, age, out),
            class_since(world, name, age, out, day),
        )
        self.assertEqual(told, wanted_class(world, name, age, out, day))
        return told

    def any_class(self, chance, world):
        name = any_placed_name(chance, world)
        while name.count(".") > 4:
            name = any_placed_name(chance, world)
        out = left_out(world, name)
        if world.lives.known(name):
            self.assertEqual(out, [one for one in world.lives.children(name) if world.lives.died_in(one) is not None])
            if chance.random() < 0.3:
                out = [child for child in world.lives.children(name) if chance.random() < 0.3]
        return (name, chance.choice([0, 1, 2, 3, 5, 21, 120]), out, world.year)

    def test_as_the_world_goes_on(self):
        for seed in range(20):
            chance = random.Random(seed)
            world, made, stood = World(chance.choice([0, 1800])), [], []
            world.arrive("ann", 20)
            for turn in range(100):
                any_deed(chance, world)
                made.append(self.any_class(chance, world))
                stood.append(None)
                for at, (name, age, out, day) in enumerate(made):
                    told = self.check_all(world, name, age, out, day)
                    was = stood[at]
                    # What was met or failed stays so, with its seats and its year; what hung is settled now.
                    if was and was[2] != "hangs":
                        self.assertEqual(told, was)
                    elif was and told[2] != "hangs":
                        self.assertEqual(told[3], world.year)
                    stood[at] = told
                    self.check_all(world, name, age, out, world.year + chance.randint(-200, 3))


if __name__ == "__main__":
    unittest.main()
