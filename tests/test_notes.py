"""Needs, rows and orders as texts and back (points 0.1 and 25)."""

import copy
import random
import re
import unittest

from deadhand.errors import NoText
from deadhand.notes import atom_text, order_text, read_atom, read_order, read_row, row_text
from helping import NOT_WELL_WRITTEN, refused_with

# The forms of point 25 as patterns, to hold the reading against.
WORD = r"(?!(?:crown|kids)(?![a-z]))[a-z]{1,8}"
NAME = WORD + r"(?:\.[1-9][0-9]?){0,5}"
NUMBER = r"(?:0|[1-9][0-9]{0,3})"
ATOM = rf"(?:year {NUMBER}|comes {WORD}|(?:born|dead) {NAME}|age {NAME} {NUMBER})"
ROW = rf"to (?:{NAME}|kids {NAME} {NUMBER})(?: when {ATOM}(?: and {ATOM})*)?(?: until {ATOM}(?: or {ATOM})*)?"
ORDER = "|".join([
    rf"arrive {WORD} {NUMBER}", rf"(?:birth|death) {NAME}", rf"comes {WORD}", rf"years {NUMBER}",
    rf"land {WORD} {NAME} {NUMBER}", rf"drop {WORD} {NUMBER} {NAME}",
    rf"sell {WORD} {NUMBER} {NAME} {NAME} {NAME} {NUMBER}/{NUMBER}",
    rf"gift {WORD} {NUMBER} {NAME}: {ROW}(?:; {ROW})*",
])
# Words that are called like the signs of the forms, too.
WORDS = ["ann", "bob", "when", "and", "until", "or", "to", "age", "born", "dead", "year", "comes", "gift", "land", "sell",
         "house", "a", "abcdefgh", "kid", "crowns"]

ATOMS = {
    "year 1900": ("year", 1900), "year 0": ("year", 0), "year 9999": ("year", 9999), "comes war": ("comes", "war"),
    "born ann.1": ("born", "ann.1"), "dead ann": ("dead", "ann"), "age ann.1 25": ("age", "ann.1", 25),
    "age ann 0": ("age", "ann", 0), "age ann.99.1.10.2.3 121": ("age", "ann.99.1.10.2.3", 121), "dead dead": ("dead", "dead"),
    "comes comes": ("comes", "comes"), "born year": ("born", "year"), "age age 7": ("age", "age", 7),
}
ROWS = {
    "to ann.1": (("one", "ann.1"), [], []),
    "to kids ann 21": (("kids", "ann", 21), [], []),
    "to ann when year 1900": (("one", "ann"), [("year", 1900)], []),
    "to ann until dead bob": (("one", "ann"), [], [("dead", "bob")]),
    "to kids ann.1 0 when comes war and dead bob until year 5 or age ann 9": (
        ("kids", "ann.1", 0), [("comes", "war"), ("dead", "bob")], [("year", 5), ("age", "ann", 9)]),
    "to when when born when and dead and until dead until or comes or": (
        ("one", "when"), [("born", "when"), ("dead", "and")], [("dead", "until"), ("comes", "or")]),
    "to to when comes until until comes when": (("one", "to"), [("comes", "until")], [("comes", "when")]),
    "to until until dead until": (("one", "until"), [], [("dead", "until")]),
    "to kids or 3": (("kids", "or", 3), [], []),
}
ORDERS = {
    "arrive ann 20": ("arrive", "ann", 20), "birth ann.1": ("birth", "ann.1"), "death ann": ("death", "ann"),
    "comes war": ("comes", "war"), "years 60": ("years", 60), "years 0": ("years", 0), "years 9999": ("years", 9999),
    "land hill ann.1 1000": ("land", "hill", "ann.1", 1000), "drop hill 3 ann": ("drop", "hill", 3, "ann"),
    "sell hill 0 ann ann.1 bob 1/2": ("sell", "hill", 0, "ann", "ann.1", "bob", 1, 2),
    "sell hill 12 ann bob ann 0/101": ("sell", "hill", 12, "ann", "bob", "ann", 0, 101),
    "gift hill 0 ann: to bob": ("gift", "hill", 0, "ann", [(("one", "bob"), [], [])]),
    "gift hill 7 ann.1: to bob when year 3; to kids ann 200 until comes war": ("gift", "hill", 7, "ann.1", [
        (("one", "bob"), [("year", 3)], []), (("kids", "ann", 200), [], [("comes", "war")])]),
    "land land land 5": ("land", "land", "land", 5), "arrive years 3": ("arrive", "years", 3),
    "gift gift 0 gift: to gift": ("gift", "gift", 0, "gift", [(("one", "gift"), [], [])]),
}
BAD_NUMBERS = ["", "00", "01", "007", "-1", "+1", "-0", "+0", "10000", "99999", "00000", "1.5", "1e3", "0x1", " 1", "1 ",
               "one", "1_0", "1,000", "1\n", "ann"]


class ThereAndBackTest(unittest.TestCase):

    def check(self, pairs, read, write):
        for text, thing in pairs.items():
            with self.subTest(text):
                self.assertEqual(read(text), thing)
                kept = copy.deepcopy(thing)
                self.assertEqual(write(thing), text)
                self.assertEqual(thing, kept)

    def test_atoms(self):
        self.check(ATOMS, read_atom, atom_text)

    def test_rows(self):
        self.check(ROWS, read_row, row_text)

    def test_orders(self):
        self.check(ORDERS, read_order, order_text)

    def test_kinds_of_what_is_read(self):
        for text in ROWS:
            holder, needs, ends = read_row(text)
            self.assertEqual([type(read_row(text)), type(holder), type(needs), type(ends)], [tuple, tuple, list, list])
            self.assertTrue(all(type(atom) is tuple for atom in needs + ends))
        for text in ORDERS:
            self.assertIs(type(read_order(text)), tuple)
        rows = read_order("gift hill 0 ann: to bob; to eve")[4]
        self.assertEqual([type(rows), type(rows[0])], [list, tuple])

    def test_any_number_of_needs_ends_and_rows(self):
        for many in (1, 2, 6, 7, 30):
            needs = " and ".join(["dead bob"] * many)
            ends = " or ".join(["year 7"] * many)
            text = f"to ann when {needs} until {ends}"
            self.assertEqual(read_row(text), (("one", "ann"), [("dead", "bob")] * many, [("year", 7)] * many))
            self.assertEqual(row_text(read_row(text)), text)
            gift = "gift hill 0 ann: " + "; ".join([text] * many)
            self.assertEqual(read_order(gift)[4], [read_row(text)] * many)
            self.assertEqual(order_text(read_order(gift)), gift)

    def test_numbers(self):
        for number in (0, 1, 9, 10, 99, 100, 999, 1000, 9999):
            self.assertEqual(read_atom(f"year {number}"), ("year", number))
            self.assertEqual(read_order(f"years {number}"), ("years", number))
            self.assertEqual(read_order(f"sell a 1 b c d {number}/{number}")[6:], (number, number))
            self.assertEqual(atom_text(("age", "ann", number)), f"age ann {number}")

    def test_read_lists_that_are_changed(self):
        text = "gift hill 0 ann: to bob when year 3"
        deed = read_order(text)
        deed[4][0][1].clear()
        deed[4].clear()
        self.assertEqual(order_text(read_order(text)), text)


class RefusedTest(unittest.TestCase):

    def check(self, read, texts):
        for text in texts:
            with self.subTest(text):
                refused_with(self, NoText, read, text)

    def test_numbers(self):
        for number in BAD_NUMBERS:
            self.check(read_atom, [f"year {number}", f"age ann {number}"])
            self.check(read_row, [f"to kids ann {number}"])
            self.check(read_order, [
                f"arrive ann {number}", f"years {number}", f"land hill ann {number}", f"drop hill {number} ann",
                f"sell hill {number} a b c 1/2", f"sell hill 0 a b c {number}/2", f"sell hill 0 a b c 1/{number}",
                f"gift hill {number} ann: to bob",
            ])

    def test_names_and_words(self):
        for name in NOT_WELL_WRITTEN:
            self.check(read_atom, [f"born {name}", f"dead {name}", f"age {name} 5", f"comes {name}"])
            self.check(read_row, [f"to {name}", f"to kids {name} 5", f"to ann when dead {name}"])
            self.check(read_order, [
                f"arrive {name} 5", f"birth {name}", f"death {name}", f"comes {name}", f"land {name} ann 5",
                f"land hill {name} 5", f"drop {name} 0 ann", f"drop hill 0 {name}", f"sell {name} 0 a b c 1/2",
                f"sell hill 0 {name} b c 1/2", f"sell hill 0 a {name} c 1/2", f"sell hill 0 a b {name} 1/2",
                f"gift {name} 0 ann: to bob", f"gift hill 0 {name}: to bob", f"gift hill 0 ann: to {name}",
                f"gift hill 0 ann: to bob; to bob until born {name}",
            ])
        self.check(read_order, ["arrive ann.1 5", "comes war.1", "land hill.1 ann 5", "drop hill.1 0 ann"])

    def test_blanks_and_line_ends(self):
        for texts, read in ((ATOMS, read_atom), (ROWS, read_row), (ORDERS, read_order)):
            for text in texts:
                bad = [" " + text, text + " ", text.replace(" ", "  ", 1), "  ".join(text.rsplit(" ", 1)), text + "\n",
                       "\n" + text, text.replace(" ", "\n", 1), text.replace(" ", "", 1), text.upper(), text + " ann",
                       text[1:], text + ";", text + ":", text + "; ", text + " and", text.replace(" ", "\n ")]
                self.check(read, [one for one in bad if one != text])
        for read in (read_atom, read_row, read_order):
            self.check(read, ["", " ", "  ", "\n", "~", "ann", "to", "kids", "year", "gift", "sell", "comes", ": ", "; "])

    def test_parts_that_are_missing_doubled_or_in_another_order(self):
        self.check(read_atom, ["year", "year 5 5", "5 year", "comes", "comes war war", "born", "dead ann bob", "age ann",
                               "age 5 ann", "age 5", "kids ann 5", "to ann", "lives ann", "year ann", "born 5"])
        self.check(read_row, [
            "ann", "to", "to ann bob", "to kids", "to kids ann", "to kids 5", "to kids 5 ann", "to one ann", "to ann when",
            "to ann until", "to ann when until year 5", "to ann when year 5 and", "to ann when and year 5",
            "to ann when year 5 until", "to ann when year 5 when year 6", "to ann until year 5 until year 6",
            "to ann until year 5 when year 6", "to ann when year 5 or year 6", "to ann until year 5 and year 6",
            "to ann when year 5 year 6", "to ann and year 5", "to ann or year 5", "to ann when year 5; to bob",
            "to ann until year 5 or", "to ann until or year 5", "to ann when year 5 and until year 6", "to to ann",
            "to ann when year 5 and and year 6", "to kids ann 5 7", "to ann 5", "when year 5",
        ])
        self.check(read_order, [
            "gift hill 0 ann", "gift hill 0 ann:", "gift hill 0 ann: ", "gift hill 0 ann to bob", "gift hill 0 ann : to bob",
            "gift hill 0 ann:to bob", "gift hill 0 ann: to bob;", "gift hill 0 ann: to bob; ", "gift hill 0 ann: ; to bob",
            "gift hill 0 ann: to bob;to eve", "gift hill 0 ann: to bob ; to eve", "gift hill 0 ann: to bob; ; to eve",
            "gift hill 0 ann: to bob: to eve", "gift hill 0: to bob", "gift hill ann: to bob", "gift 0 hill ann: to bob",
            "gift hill 0 ann: bob", "gift hill 0 ann bob: to eve", "gift hill 0 ann; to bob", "gift: to bob",
            "gift hill 0 ann: gift hill 0 ann: to bob", "sell hill 0 a b c", "sell hill 0 a b c 1", "sell hill 0 a b c 1/",
            "sell hill 0 a b c /2", "sell hill 0 a b c /", "sell hill 0 a b c 1/2/3", "sell hill 0 a b c 1 2",
            "sell hill 0 a b c 1 / 2", "sell hill 0 a b 1/2", "sell hill 0 a b c d 1/2", "sell 0 hill a b c 1/2",
            "sell hill 0 a b 1/2 c", "sell", "arrive ann", "arrive 20 ann", "arrive ann 20 5", "birth", "birth ann bob",
            "death", "comes", "comes war war", "years", "years 5 5", "land hill ann", "land hill 5 ann", "land ann 5",
            "drop hill ann", "drop hill ann 0", "drop hill 0", "drop hill 0 ann bob", "house 1800 21", "dies ann",
            "Arrive ann 20", "birth ann\nbirth ann", "comes war; comes flood",
        ])


class DrawnTest(unittest.TestCase):

    def name(self, chance):
        many = chance.choice([0, 0, 0, 1, 2, 5])
        return chance.choice(WORDS) + "".join(f".{chance.choice([1, 9, 10, 99])}" for number in range(many))

    def number(self, chance):
        return chance.choice([0, 1, 7, 10, 120, 999, 1000, 9999])

    def atom(self, chance):
        kind = chance.choice(["year", "comes", "born", "dead", "age"])
        if kind == "year":
            return (kind, self.number(chance))
        if kind == "comes":
            return (kind, chance.choice(WORDS))
        return (kind, self.name(chance), self.number(chance)) if kind == "age" else (kind, self.name(chance))

    def row(self, chance):
        holder = ("one", self.name(chance)) if chance.random() < 0.5 else ("kids", self.name(chance), self.number(chance))
        needs, ends = [[self.atom(chance) for number in range(chance.choice([0, 0, 1, 2, 3]))] for turn in range(2)]
        return (holder, needs, ends)

    def order(self, chance):
        word, name, number = chance.choice(WORDS), self.name(chance), self.number(chance)
        return chance.choice([
            ("arrive", word, number), ("birth", name), ("death", name), ("comes", word), ("years", number),
            ("land", word, name, number), ("drop", word, number, name),
            ("sell", word, number, name, self.name(chance), self.name(chance), number, self.number(chance)),
            ("gift", word, number, name, [self.row(chance) for turn in range(chance.choice([1, 1, 2, 3]))]),
        ])

    def spoilt(self, chance, text):
        """A text with one thing in it changed, which may be good all the same."""
        pieces = text.split(" ")
        at = chance.randrange(len(pieces))
        signs = list(text)
        place = chance.randrange(len(signs))
        kind = chance.randrange(6)
        if kind == 0:
            pieces.pop(at)
        elif kind == 1:
            pieces.insert(at, chance.choice(pieces + ["", "and", "or", "when", "until", "to", "kids", "5", ";", ":"]))
        elif kind == 2:
            other = chance.randrange(len(pieces))
            pieces[at], pieces[other] = pieces[other], pieces[at]
        elif kind == 3:
            pieces[at] = chance.choice(pieces + ["and", "or", "when", "until", "ann", "0"])
        elif kind == 4:
            signs[place] = chance.choice("ab0 1.;:/\n~A-")
            return "".join(signs)
        else:
            signs.insert(place, chance.choice("ab0 1.;:/\n~A-"))
            return "".join(signs)
        return " ".join(pieces)

    def check(self, text, pattern, read, write):
        if re.fullmatch(pattern, text):
            self.assertEqual(write(read(text)), text)
            return True
        refused_with(self, NoText, read, text)
        return False

    def test_there_and_back(self):
        chance = random.Random(5)
        good = {True: 0, False: 0}
        for turn in range(4000):
            for drawn, pattern, read, write in (
                (self.atom(chance), ATOM, read_atom, atom_text), (self.row(chance), ROW, read_row, row_text),
                (self.order(chance), ORDER, read_order, order_text),
            ):
                text = write(drawn)
                self.assertEqual(read(text), drawn)
                self.assertTrue(self.check(text, pattern, read, write))
                good[self.check(self.spoilt(chance, text), pattern, read, write)] += 1
        self.assertGreater(min(good.values()), 500)


if __name__ == "__main__":
    unittest.main()
