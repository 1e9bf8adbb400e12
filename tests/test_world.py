"""The world (points 0.1, 0.2 and 6)."""

import random
import unittest

from deadhand.errors import Gone, LandError, NoPerson, NoText, OutOfBound, Taken, TooDeep
from deadhand.lives import Lives
from deadhand.world import World
from helping import (
    HAPPENINGS, HUGE, NOT_WELL_WRITTEN, WORDS, Model, any_name, grown, refused_with, wait, whole_world,
)

NOT_WORDS = NOT_WELL_WRITTEN + ["ann.1", "war.1", "w r", "war ", "WAR", "a" * 9, "~"]


class WorldCase(unittest.TestCase):

    def refused_with(self, world, kind, deed, *things):
        ahead = whole_world(world)
        refused_with(self, kind, deed, *things)
        self.assertEqual(whole_world(world), ahead)


class YearsTest(WorldCase):

    def test_first_years(self):
        for year in (0, 1, 1800, 9998, 9999):
            self.assertEqual(World(year).year, year)
        for year in (-1, 10000, -9999, 10001, 30000, -HUGE, HUGE):
            with self.subTest(year):
                refused_with(self, OutOfBound, World, year)

    def test_a_new_world_is_empty(self):
        world = World(7)
        self.assertIs(type(world.lives), Lives)
        self.assertEqual(world.lives.names(), [])
        for word in HAPPENINGS:
            self.assertIsNone(world.came_in(word))

    def test_years_that_pass(self):
        world = World(0)
        year = 0
        for many in (1, 2, 59, 60, 1, 60):
            self.assertIsNone(world.pass_years(many))
            year += many
            self.assertEqual(world.year, year)

    def test_years_out_of_bound(self):
        world = grown(1800, ["arrive ann 20", "birth ann", "comes war"])
        for many in (0, 61, -1, 62, -60, -61, 1800, HUGE, -HUGE):
            with self.subTest(many):
                self.refused_with(world, OutOfBound, world.pass_years, many)
        world.pass_years(60)
        self.assertEqual(world.year, 1860)

    def test_the_clock_goes_on_beyond_the_last_first_year(self):
        world = World(9999)
        world.pass_years(1)
        self.assertEqual(world.year, 10000)
        wait(world, 20000)
        self.assertEqual(world.year, 30000)
        world.arrive("ann", 0)
        self.assertEqual(world.lives.born_in("ann"), 30000)


class PeopleTest(WorldCase):

    def test_arrivals(self):
        world = World(1800)
        for word, age in (("ann", 0), ("bob", 1), ("eve", 119), ("zoe", 120)):
            self.assertIsNone(world.arrive(word, age))
            self.assertEqual(world.lives.born_in(word), 1800 - age)
            self.assertEqual(world.age(word), age)
        self.assertEqual(world.lives.names(), ["ann", "bob", "eve", "zoe"])

    def test_a_birth_below_nought(self):
        world = World(0)
        world.arrive("ann", 120)
        world.arrive("bob", 1)
        self.assertEqual((world.lives.born_in("ann"), world.lives.born_in("bob")), (-120, -1))
        world.pass_years(5)
        self.assertEqual((world.age("ann"), world.age("bob")), (125, 6))
        world.death("ann")
        wait(world, 300)
        self.assertEqual((world.age("ann"), world.age("bob")), (125, 306))

    def test_ages_out_of_bound(self):
        world = grown(1800, ["arrive bob 3"])
        for age in (-1, 121, -2, 122, -120, 1800, HUGE, -HUGE):
            with self.subTest(age):
                self.refused_with(world, OutOfBound, world.arrive, "ann", age)
        world.arrive("ann", 120)
        self.assertEqual(world.lives.born_in("ann"), 1680)

    def test_words_of_arrivals(self):
        world = grown(1800, ["arrive ann 20", "birth ann", "arrive bob 20", "death bob"])
        for word in NOT_WORDS:
            with self.subTest(word):
                self.refused_with(world, NoText, world.arrive, word, 20)
        self.refused_with(world, Taken, world.arrive, "ann", 20)
        self.refused_with(world, Taken, world.arrive, "bob", 20)

    def test_several_faults_at_an_arrival(self):
        world = grown(1800, ["arrive ann 20"])
        ahead = whole_world(world)
        for word, age in (("ann", 121), ("", 121), ("ann.1", -1)):
            with self.assertRaises((OutOfBound, NoText, Taken)):
                world.arrive(word, age)
            self.assertEqual(whole_world(world), ahead)

    def test_births_and_deaths_have_the_year_of_now(self):
        world = World(1800)
        world.arrive("ann", 20)
        self.assertEqual(world.birth("ann"), "ann.1")
        world.pass_years(30)
        self.assertEqual(world.birth("ann.1"), "ann.1.1")
        self.assertEqual(world.birth("ann"), "ann.2")
        self.assertIsNone(world.death("ann.1"))
        world.pass_years(1)
        self.assertIsNone(world.death("ann"))
        lives = world.lives
        self.assertEqual([lives.born_in(name) for name in lives.names()], [1780, 1800, 1830, 1830])
        self.assertEqual([lives.died_in(name) for name in lives.names()], [1831, 1830, None, None])

    def test_ages(self):
        world = grown(1800, ["arrive ann 20", "birth ann"])
        self.assertEqual((world.age("ann"), world.age("ann.1")), (20, 0))
        world.pass_years(1)
        self.assertEqual((world.age("ann"), world.age("ann.1")), (21, 1))
        world.death("ann.1")
        self.assertEqual((world.age("ann"), world.age("ann.1")), (21, 1))
        world.pass_years(60)
        self.assertEqual((world.age("ann"), world.age("ann.1")), (81, 1))
        world.birth("ann")
        world.death("ann.2")
        wait(world, 500)
        self.assertEqual((world.age("ann"), world.age("ann.2")), (581, 0))

    def test_age_of_nobody(self):
        world = grown(1800, ["arrive ann 20", "birth ann", "comes war"])
        for text in NOT_WELL_WRITTEN + ["eve", "ann.2", "ann.1.1", "war", "an"]:
            with self.subTest(text):
                self.refused_with(world, NoPerson, world.age, text)

    def test_births_and_deaths_refused(self):
        world = grown(1800, ["arrive ann 20", "birth ann", "death ann.1"])
        for deed in (world.birth, world.death):
            for text in NOT_WELL_WRITTEN + ["eve", "ann.2", "ann.1.1"]:
                with self.subTest(text, deed=deed.__name__):
                    self.refused_with(world, NoPerson, deed, text)
            self.refused_with(world, Gone, deed, "ann.1")

    def test_too_deep(self):
        world = World(1800)
        world.arrive("ann", 20)
        name = "ann"
        for number in range(5):
            name = world.birth(name)
        self.refused_with(world, TooDeep, world.birth, name)
        world.death(name)
        self.assertEqual(world.birth("ann.1.1.1.1"), "ann.1.1.1.1.2")


class HappeningsTest(WorldCase):

    def test_it_comes_once(self):
        world = World(1800)
        self.assertIsNone(world.came_in("war"))
        self.assertIsNone(world.comes("war"))
        self.assertEqual(world.came_in("war"), 1800)
        self.refused_with(world, Taken, world.comes, "war")
        world.pass_years(4)
        self.refused_with(world, Taken, world.comes, "war")
        self.assertEqual(world.came_in("war"), 1800)
        world.comes("flood")
        self.assertEqual((world.came_in("war"), world.came_in("flood")), (1800, 1804))

    def test_the_year_nought(self):
        world = World(0)
        world.comes("war")
        self.assertEqual(world.came_in("war"), 0)
        self.refused_with(world, Taken, world.comes, "war")
        world.pass_years(1)
        self.assertEqual(world.came_in("war"), 0)

    def test_words_of_happenings(self):
        world = grown(1800, ["comes war"])
        for word in NOT_WORDS:
            with self.subTest(word):
                self.refused_with(world, NoText, world.comes, word)
                self.assertIsNone(world.came_in(word))
        for word in ("a", "abcdefgh", "kid", "crowns"):
            world.comes(word)
            self.assertEqual(world.came_in(word), 1800)

    def test_came_in_of_any_text(self):
        world = grown(1800, ["comes war", "arrive ann 3"])
        for text in NOT_WORDS + ["wa", "warr", "ann", "\n", "~" * 300]:
            self.assertIsNone(world.came_in(text))

    def test_a_person_may_have_the_same_word(self):
        world = grown(1800, ["arrive ann 3", "years 5"])
        world.comes("ann")
        self.assertEqual((world.came_in("ann"), world.lives.born_in("ann")), (1805, 1797))
        world.comes("bob")
        world.arrive("bob", 7)
        self.assertEqual((world.came_in("bob"), world.age("bob")), (1805, 7))


class WholeTest(WorldCase):

    def test_worlds_are_apart(self):
        one, other = World(1800), World(1800)
        ahead = whole_world(other)
        one.arrive("ann", 4)
        one.comes("war")
        one.pass_years(3)
        self.assertEqual(whole_world(other), ahead)

    def test_told_lists_that_are_changed(self):
        world = grown(1800, ["arrive ann 20", "birth ann"])
        ahead = whole_world(world)
        for told in (world.lives.names(), world.lives.living(), world.lives.children("ann")):
            told.clear()
            self.assertEqual(whole_world(world), ahead)

    def test_what_was_refused_is_done_when_it_has_become_good(self):
        world = World(1800)
        self.refused_with(world, NoPerson, world.birth, "ann")
        self.refused_with(world, OutOfBound, world.arrive, "ann", 121)
        self.refused_with(world, NoPerson, world.age, "ann")
        world.arrive("ann", 120)
        self.refused_with(world, NoPerson, world.death, "ann.1")
        self.assertEqual(world.birth("ann"), "ann.1")
        world.death("ann.1")
        self.assertEqual(world.age("ann"), 120)

    def wanted(self, model, came, kind, thing, number):
        """The refusals of which any one may be told, by a plain model."""
        if kind == "years":
            return set() if 1 <= number <= 60 else {OutOfBound}
        if kind == "comes":
            return {Taken} if thing in came else set()
        found = {model.wanted(kind, thing)} - {None}
        return found | ({OutOfBound} if kind == "arrive" and not 0 <= number <= 120 else set())

    def do(self, world, kind, thing, number):
        if kind == "years":
            return world.pass_years(number)
        if kind == "arrive":
            return world.arrive(thing, number)
        return {"birth": world.birth, "death": world.death, "comes": world.comes}[kind](thing)

    def check_world(self, world, model, year, came):
        self.assertEqual(world.year, year)
        self.assertEqual(world.lives.names(), [row[0] for row in model.rows])
        for name, born, died in model.rows:
            self.assertEqual((world.lives.born_in(name), world.lives.died_in(name)), (born, died))
            self.assertEqual(world.age(name), (year if died is None else died) - born)
        self.assertEqual({word: world.came_in(word) for word in HAPPENINGS if world.came_in(word) is not None}, came)

    def test_any_deeds(self):
        for seed in range(12):
            chance = random.Random(seed)
            year = chance.choice([0, 5, 1800, 9999])
            world, model, came = World(year), Model(), {}
            for turn in range(100):
                kind = chance.choice(["arrive", "birth", "birth", "birth", "death", "comes", "years", "years"])
                thing = any_name(chance, [row[0] for row in model.rows])
                thing = chance.choice({"arrive": WORDS, "comes": HAPPENINGS}.get(kind, [thing]))
                number = chance.choice([-1, 0, 1, 2, 3, 60, 61, 120, 121])
                refusals = self.wanted(model, came, kind, thing, number)
                if refusals:
                    ahead = whole_world(world)
                    with self.assertRaises(LandError) as caught:
                        self.do(world, kind, thing, number)
                    self.assertIn(type(caught.exception), refusals)
                    self.assertEqual(whole_world(world), ahead)
                    continue
                answer = self.do(world, kind, thing, number)
                if kind == "years":
                    year += number
                elif kind == "comes":
                    came[thing] = year
                else:
                    self.assertEqual(answer, model.do(kind, thing, year - (number if kind == "arrive" else 0)))
                self.check_world(world, model, year, came)


if __name__ == "__main__":
    unittest.main()
