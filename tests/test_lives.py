"""The book of the people (points 0.1, 0.2, 3 and 4)."""

import random
import unittest

from deadhand.errors import Gone, NoPerson, NoText, Taken, TooDeep
from deadhand.lives import Lives
from helping import NOT_WELL_WRITTEN, WORDS, Model, any_name, refused_with, whole_book


def family():
    """ann (dead) with ann.1 (dead) and ann.2, ann.2 with ann.2.1; bob with bob.1."""
    lives = Lives()
    lives.arrive("ann", 1800)
    lives.arrive("bob", -5)
    lives.birth("ann", 1820)
    lives.birth("bob", 1821)
    lives.birth("ann", 1822)
    lives.death("ann.1", 1830)
    lives.birth("ann.2", 1840)
    lives.death("ann", 1841)
    return lives


class LivesCase(unittest.TestCase):

    def refused_with(self, lives, kind, deed, *things):
        ahead = whole_book(lives, NOT_WELL_WRITTEN)
        refused_with(self, kind, deed, *things)
        self.assertEqual(whole_book(lives, NOT_WELL_WRITTEN), ahead)


class DeedsTest(LivesCase):

    def test_an_empty_book(self):
        lives = Lives()
        self.assertEqual(lives.names(), [])
        self.assertEqual(lives.living(), [])
        self.assertIs(lives.known("ann"), False)
        self.assertIs(lives.alive("ann"), False)

    def test_written_out(self):
        lives = family()
        self.assertEqual(lives.names(), ["ann", "bob", "ann.1", "bob.1", "ann.2", "ann.2.1"])
        self.assertEqual(lives.living(), ["bob", "bob.1", "ann.2", "ann.2.1"])
        self.assertEqual(lives.children("ann"), ["ann.1", "ann.2"])
        self.assertEqual(lives.children("ann.2"), ["ann.2.1"])
        self.assertEqual(lives.children("ann.1"), [])
        self.assertEqual(lives.children("bob"), ["bob.1"])
        self.assertEqual([lives.born_in(name) for name in lives.names()], [1800, -5, 1820, 1821, 1822, 1840])
        self.assertEqual([lives.died_in(name) for name in lives.names()], [1841, None, 1830, None, None, None])
        self.assertEqual([lives.alive(name) for name in lives.names()], [False, True, False, True, True, True])
        self.assertEqual([lives.known(name) for name in lives.names()], [True] * 6)

    def test_what_deeds_answer(self):
        lives = Lives()
        self.assertIsNone(lives.arrive("ann", 0))
        self.assertEqual(lives.birth("ann", 20), "ann.1")
        self.assertEqual(lives.birth("ann.1", 40), "ann.1.1")
        self.assertEqual(lives.birth("ann", 40), "ann.2")
        self.assertIsNone(lives.death("ann", 40))

    def test_children_are_numbered_from_one_on(self):
        lives = Lives()
        lives.arrive("ann", 0)
        for number in range(1, 100):
            self.assertEqual(lives.birth("ann", number), f"ann.{number}")
            if number % 3 == 0:
                lives.death(f"ann.{number}", number)
        self.assertEqual(lives.children("ann"), [f"ann.{number}" for number in range(1, 100)])

    def test_the_greatest_depth(self):
        lives = Lives()
        lives.arrive("ann", 0)
        name = "ann"
        for number in range(5):
            name = lives.birth(name, 20)
        self.assertEqual(name, "ann.1.1.1.1.1")
        self.refused_with(lives, TooDeep, lives.birth, name, 21)
        self.assertEqual(lives.birth("ann.1.1.1.1", 21), "ann.1.1.1.1.2")
        self.refused_with(lives, TooDeep, lives.birth, "ann.1.1.1.1.2", 21)

    def test_books_are_apart(self):
        one, other = Lives(), Lives()
        one.arrive("ann", 0)
        self.assertEqual(other.names(), [])
        other.arrive("ann", 5)
        one.birth("ann", 9)
        self.assertEqual(other.children("ann"), [])

    def test_texts_that_are_in_no_book(self):
        lives = family()
        for text in NOT_WELL_WRITTEN + ["eve", "ann.3", "ann.1.1", "an", "ann.2.1.1", "eve.1", "\n", "~" * 500]:
            with self.subTest(text):
                self.assertIs(lives.known(text), False)
                self.assertIs(lives.alive(text), False)

    def test_told_lists_that_are_changed(self):
        lives = family()
        ahead = whole_book(lives)
        for told in (lives.names(), lives.living(), lives.children("ann"), lives.children("ann.1")):
            told.append("eve")
            told[0] = "zoe"
            self.assertEqual(whole_book(lives), ahead)
        self.assertEqual(lives.birth("ann.2", 1900), "ann.2.2")

    def test_a_told_list_stays_when_the_book_goes_on(self):
        lives = family()
        names, living, children = lives.names(), lives.living(), lives.children("bob")
        lives.birth("bob", 1900)
        lives.death("bob", 1901)
        self.assertEqual(names, ["ann", "bob", "ann.1", "bob.1", "ann.2", "ann.2.1"])
        self.assertEqual(living, ["bob", "bob.1", "ann.2", "ann.2.1"])
        self.assertEqual(children, ["bob.1"])


class RefusalsTest(LivesCase):

    def test_arrive(self):
        lives = family()
        for word in NOT_WELL_WRITTEN + ["ann.1", "ann.3", "bob.2"]:
            with self.subTest(word):
                self.refused_with(lives, NoText, lives.arrive, word, 1900)
        for word in ("ann", "bob"):
            self.refused_with(lives, Taken, lives.arrive, word, 1900)

    def test_birth_and_death(self):
        lives = family()
        for deed in (lives.birth, lives.death):
            for text in NOT_WELL_WRITTEN + ["eve", "ann.3", "ann.1.1", "ann.2.2"]:
                with self.subTest(text, deed=deed.__name__):
                    self.refused_with(lives, NoPerson, deed, text, 1900)
            for name in ("ann", "ann.1"):
                self.refused_with(lives, Gone, deed, name, 1900)

    def test_a_dead_one_of_the_greatest_depth(self):
        lives = Lives()
        lives.arrive("ann", 0)
        name = "ann"
        for number in range(5):
            name = lives.birth(name, 20)
        lives.death(name, 30)
        with self.assertRaises((Gone, TooDeep)):
            lives.birth(name, 40)
        self.assertEqual(lives.children(name), [])
        self.refused_with(lives, Gone, lives.death, name, 40)
        self.assertEqual(lives.died_in(name), 30)

    def test_questions(self):
        lives = family()
        for question in (lives.born_in, lives.died_in, lives.children):
            for text in NOT_WELL_WRITTEN + ["eve", "ann.3", "ann.1.1", "ann.2.2"]:
                with self.subTest(text, question=question.__name__):
                    self.refused_with(lives, NoPerson, question, text)

    def test_what_was_refused_is_done_when_it_has_become_good(self):
        lives = Lives()
        self.refused_with(lives, NoPerson, lives.birth, "ann", 1)
        self.refused_with(lives, NoPerson, lives.death, "ann", 1)
        self.refused_with(lives, NoPerson, lives.children, "ann")
        lives.arrive("ann", 1)
        self.refused_with(lives, NoPerson, lives.death, "ann.1", 2)
        self.refused_with(lives, NoPerson, lives.birth, "ann.1", 2)
        self.assertEqual(lives.birth("ann", 2), "ann.1")
        self.assertEqual(lives.birth("ann.1", 3), "ann.1.1")
        lives.death("ann.1", 4)
        self.refused_with(lives, Gone, lives.birth, "ann.1", 5)
        self.assertEqual(lives.birth("ann", 5), "ann.2")
        self.assertEqual(lives.died_in("ann.1"), 4)
        self.assertEqual(lives.children("ann.1"), ["ann.1.1"])


class NearestTest(LivesCase):

    def test_of_people_in_the_book(self):
        lives = family()
        for name in lives.names():
            self.assertEqual(lives.nearest(name), name)
            self.assertIs(lives.never(name), False)

    def test_of_names_that_go_on_from_one_of_the_book(self):
        lives = family()
        wanted = [
            ("ann.3", "ann", True), ("ann.3.1", "ann", True), ("ann.10", "ann", True), ("ann.1.1", "ann.1", True),
            ("ann.1.1.1.1.1", "ann.1", True), ("ann.2.2", "ann.2", False), ("ann.2.99", "ann.2", False),
            ("ann.2.1.1", "ann.2.1", False), ("ann.2.1.7.8.9", "ann.2.1", False), ("ann.2.2.1", "ann.2", False),
            ("bob.2", "bob", False), ("bob.11", "bob", False), ("bob.2.1.1.1.1", "bob", False),
            ("bob.1.5", "bob.1", False),
        ]
        for name, near, never in wanted:
            with self.subTest(name):
                self.assertEqual(lives.nearest(name), near)
                self.assertIs(lives.never(name), never)

    def test_of_names_whose_word_is_not_in_the_book(self):
        lives = family()
        for name in ("eve", "eve.1", "eve.1.2.3.4.5", "an", "annn", "bobby.1"):
            self.assertEqual(lives.nearest(name), "")
            self.assertIs(lives.never(name), True)
        self.assertEqual(Lives().nearest("ann"), "")
        self.assertIs(Lives().never("ann"), True)

    def test_not_well_written(self):
        lives = family()
        for text in NOT_WELL_WRITTEN:
            with self.subTest(text):
                self.refused_with(lives, NoText, lives.nearest, text)
                self.refused_with(lives, NoText, lives.never, text)

    def test_it_goes_on_with_the_book(self):
        lives = Lives()
        steps = [lives.nearest("ann.2.1")]
        lives.arrive("ann", 0)
        steps.append(lives.nearest("ann.2.1"))
        lives.birth("ann", 20)
        steps.append(lives.nearest("ann.2.1"))
        lives.birth("ann", 21)
        steps.append(lives.nearest("ann.2.1"))
        self.assertIs(lives.never("ann.2.1"), False)
        lives.death("ann.2", 22)
        steps.append(lives.nearest("ann.2.1"))
        self.assertEqual(steps, ["", "ann", "ann", "ann.2", "ann.2"])
        self.assertIs(lives.never("ann.2.1"), True)
        self.assertIs(lives.never("ann.3"), False)


class RandomTest(LivesCase):

    def check_book(self, lives, model, others):
        self.assertEqual(lives.names(), [row[0] for row in model.rows])
        self.assertEqual(lives.living(), [row[0] for row in model.rows if row[2] is None])
        for name, born, died in model.rows:
            self.assertEqual((lives.known(name), lives.alive(name)), (True, died is None))
            self.assertEqual((lives.born_in(name), lives.died_in(name)), (born, died))
            self.assertEqual(lives.children(name), model.children(name))
        for name in others:
            near = model.nearest(name)
            self.assertEqual(lives.nearest(name), near)
            wanted = near != name and (near == "" or model.row(near)[2] is not None)
            self.assertIs(lives.never(name), wanted)

    def test_any_deeds(self):
        for seed in range(12):
            chance = random.Random(seed)
            lives, model, year = Lives(), Model(), 0
            for turn in range(90):
                year += chance.randint(0, 3)
                kind = chance.choice(["arrive", "birth", "birth", "birth", "death"])
                names = [row[0] for row in model.rows]
                name = any_name(chance, names) if kind != "arrive" else chance.choice(WORDS)
                refusal = model.wanted(kind, name)
                deed = {"arrive": lives.arrive, "birth": lives.birth, "death": lives.death}[kind]
                if refusal:
                    self.refused_with(lives, refusal, deed, name, year)
                else:
                    self.assertEqual(deed(name, year), model.do(kind, name, year))
                self.check_book(lives, model, [any_name(chance, names) for number in range(5)])


if __name__ == "__main__":
    unittest.main()
