"""Words and names (point 3)."""

import random
import re
import unittest

from deadhand.errors import LandError, NoText
from deadhand.lives import good_word, parent_of, parts

# Another way to tell a well written name, to hold the program's own against.
WORD = re.compile(r"(?!(?:crown|kids)\Z)[a-z]{1,8}\Z")
NAME = re.compile(r"(?!(?:crown|kids)(?:\.|\Z))[a-z]{1,8}(?:\.[1-9][0-9]?){0,5}\Z")
SIGNS = [chr(code) for code in range(32, 127) if chr(code) != "%"] + ["\n"]
GOOD_NAMES = [
    "a", "z", "ann", "abcdefgh", "zzzzzzzz", "kid", "kidss", "crowns", "crow", "ann.1", "ann.99", "a.10.20",
    "ann.2.1", "ann.1.2.3", "ann.9.9.9.9", "abcdefgh.99.99.99.99.99", "ann.1.1.1.1.1",
]
BAD_NAMES = [
    "", "crown", "kids", "crown.1", "kids.1.2", "abcdefghi", "abcdefghi.1", "ann.0", "ann.100", "ann.01", "ann.00",
    "ann.1.0", "ann.1.100.1", "ann.1.1.1.1.1.1", "ann.", ".ann", ".", "..", "ann..1", "ann.1.", ".1", "1", "1.ann",
    "ann.-1", "ann.+1", "ann.1 ", " ann", "ann 1", "ann.a", "ann.1a", "ann.bob", "Ann", "ANN", "ann1", "a_b",
    "ann\n", "\nann", "ann.1\n", "ann\n.1", "ann.\n1", "ann.1_0", "ann. 1", "\n", " ", "ann,1", "ann.1.1.1.1.1.",
]


class NamesCase(unittest.TestCase):

    def check_refused(self, name):
        for deed in (parts, parent_of):
            with self.subTest(name, deed=deed.__name__):
                with self.assertRaises(LandError) as caught:
                    deed(name)
                self.assertIs(type(caught.exception), NoText)

    def check_name(self, name):
        if NAME.match(name):
            word, *numbers = name.split(".")
            told = parts(name)
            self.assertIs(type(told), list)
            self.assertEqual(told, [word] + [int(number) for number in numbers])
            self.assertEqual([type(part) for part in told], [str] + [int] * len(numbers))
            self.assertEqual(parent_of(name), ".".join([word] + numbers[:-1]) if numbers else "")
        else:
            self.check_refused(name)


class WordTest(NamesCase):

    def test_lengths(self):
        self.assertIs(good_word(""), False)
        for many in range(1, 9):
            self.assertIs(good_word("q" * many), True)
        for many in (9, 10, 50):
            self.assertIs(good_word("q" * many), False)

    def test_barred_words(self):
        self.assertIs(good_word("crown"), False)
        self.assertIs(good_word("kids"), False)
        for word in ("crow", "crowns", "kid", "kidsa", "akids", "ann"):
            self.assertIs(good_word(word), True)

    def test_each_sign_by_itself_and_in_a_word(self):
        for sign in SIGNS:
            good = "a" <= sign <= "z"
            for word in (sign, "an" + sign, sign + "an", "a" + sign + "n"):
                with self.subTest(word):
                    self.assertIs(good_word(word), good)

    def test_names_are_no_words(self):
        self.assertIs(good_word("ann.1"), False)
        self.assertIs(good_word("ann\n"), False)


class NameTest(NamesCase):

    def test_written_out(self):
        self.assertEqual(parts("ann"), ["ann"])
        self.assertEqual(parts("ann.2.1"), ["ann", 2, 1])
        self.assertEqual(parts("abcdefgh.99.1.10.2.30"), ["abcdefgh", 99, 1, 10, 2, 30])
        self.assertEqual(parent_of("ann"), "")
        self.assertEqual(parent_of("ann.2"), "ann")
        self.assertEqual(parent_of("ann.2.1"), "ann.2")
        self.assertEqual(parent_of("ann.12.34.56.78.99"), "ann.12.34.56.78")

    def test_good_names(self):
        for name in GOOD_NAMES:
            self.assertIsNotNone(NAME.match(name))
            self.check_name(name)

    def test_bad_names(self):
        for name in BAD_NAMES:
            self.check_refused(name)

    def test_how_many_numbers(self):
        for many in range(0, 6):
            self.assertEqual(parts("ann" + ".7" * many), ["ann"] + [7] * many)
        for many in (6, 7, 20):
            self.check_refused("ann" + ".7" * many)

    def test_which_numbers(self):
        for number in range(1, 100):
            self.assertEqual(parts(f"ann.{number}"), ["ann", number])
            self.assertEqual(parts(f"ann.{number}.1"), ["ann", number, 1])
            self.check_refused(f"ann.0{number}")
            self.check_refused(f"ann.-{number}")
        for number in (0, 100, 101, 990, 1000, 10 ** 40):
            self.check_refused(f"ann.{number}")
            self.check_refused(f"ann.1.{number}.1")

    def test_any_sign_put_in_taken_out_or_exchanged(self):
        for name in ("ann", "abcdefgh", "crown", "kids", "ann.1", "ann.2.10", "b.99.1.2.3", "ann.1.2.3.4.50"):
            for at in range(len(name) + 1):
                self.check_name(name[:at] + name[at + 1:])
                for sign in SIGNS:
                    self.check_name(name[:at] + sign + name[at:])
                    self.check_name(name[:at] + sign + name[at + 1:])

    def test_words_are_told_as_another_way_tells_them(self):
        chance = random.Random(1)
        for turn in range(3000):
            word = "".join(chance.choice("abkidsz.1 A\n") for number in range(chance.randint(0, 10)))
            self.assertIs(good_word(word), bool(WORD.match(word)))
            self.check_name(word)

    def test_a_told_list_that_is_changed(self):
        told = parts("ann.1")
        told.append(2)
        told[0] = "bob"
        self.assertEqual(parts("ann.1"), ["ann", 1])


if __name__ == "__main__":
    unittest.main()
