"""Rents and purses (point 24)."""

import unittest

from deadhand.errors import OutOfBound
from realms import ODD_TEXTS, RealmChecks, rule, ruled, whole_realm

FIRST = ["arrive ann 20", "arrive bob 30", "arrive eve 40", "land hill ann 12"]


class RentTest(unittest.TestCase, RealmChecks):

    def check(self, realm, purses):
        """All who have something, and nobody else."""
        names = realm.world.lives.names() + ODD_TEXTS
        self.assertEqual({name: realm.purse(name) for name in names if realm.purse(name) != (0, 1)}, purses)

    def test_one_year_and_many(self):
        realm = ruled(1800, 21, FIRST)
        self.check(realm, {})
        rule(realm, "years 1")
        self.check(realm, {"ann": (12, 1)})
        rule(realm, "years 60")
        self.check(realm, {"ann": (732, 1)})

    def test_nothing_else_changes_a_purse(self):
        realm = ruled(1800, 21, FIRST + ["years 2"])
        for text in ("birth ann", "gift hill 0 ann: to bob", "drop hill 1 bob", "sell hill 0 ann ann bob 1/2", "comes war",
                     "death ann", "land dale bob 5", "arrive zoe 3"):
            rule(realm, text)
            self.check(realm, {"ann": (24, 1)})
        self.refused(realm, OutOfBound, realm.years, 61)
        self.refused(realm, OutOfBound, realm.years, 0)

    def test_shares(self):
        realm = ruled(1800, 21, FIRST + ["sell hill 0 ann ann bob 1/7", "years 1"])
        self.check(realm, {"ann": (72, 7), "bob": (12, 7)})
        rule(realm, "years 6")
        self.check(realm, {"ann": (72, 1), "bob": (12, 1)})
        rule(realm, "sell hill 0 ann ann eve 1/5")
        rule(realm, "years 1")
        self.check(realm, {"ann": (72 * 35 + 12 * 23, 35), "bob": (96, 7), "eve": (12, 5)})

    def test_several_lands(self):
        realm = ruled(1800, 21, FIRST + ["land dale bob 1000", "land moor ann 1", "years 3"])
        self.check(realm, {"ann": (39, 1), "bob": (3000, 1)})

    def test_a_year_need_and_a_year_end(self):
        for steps in ([10], [1] * 10, [3, 1, 6], [4, 6]):
            realm = ruled(1800, 60, FIRST + ["gift hill 0 ann: to bob when year 1803 until year 1807"])
            for many in steps:
                realm.years(many)
            # bob sits in the years 1803 to 1806.
            self.check(realm, {"ann": (72, 1), "bob": (48, 1)})

    def test_an_age_that_is_reached(self):
        for steps in ([10], [1] * 10, [4, 1, 5]):
            realm = ruled(1800, 60, FIRST + ["birth ann", "gift hill 0 ann: to ann.1 when age ann.1 4 until age ann 27"])
            for many in steps:
                realm.years(many)
            # ann.1 is 4 in 1804, ann is 27 in 1807.
            self.check(realm, {"ann": (84, 1), "ann.1": (36, 1)})

    def test_seats_that_come_one_by_one(self):
        texts = ["birth ann", "years 1", "birth ann", "years 1", "birth ann", "gift hill 0 ann: to kids ann 5"]
        for steps in ([8], [1] * 8, [2, 3, 3]):
            realm = ruled(1800, 60, FIRST + texts)
            for many in steps:
                realm.years(many)
            # From 1800 on ann for 5 years, ann.1 alone in 1805, two in 1806, three in 1807, 1808 and 1809.
            self.check(realm, {"ann": (60, 1), "ann.1": (30, 1), "ann.2": (18, 1), "ann.3": (12, 1)})

    def test_the_crown_and_any_text(self):
        realm = ruled(1800, 60, FIRST + ["death ann", "years 2"])
        self.check(realm, {"crown": (24, 1)})
        for text in ODD_TEXTS[1:] + ["zoe", "ann.1", "bob"]:
            self.assertEqual(realm.purse(text), (0, 1))

    def test_the_dead_keep_their_purse(self):
        realm = ruled(1800, 60, FIRST + ["birth ann", "years 2", "death ann", "years 1"])
        self.check(realm, {"ann": (24, 1), "ann.1": (12, 1)})

    def test_many_years_are_as_one_by_one(self):
        texts = FIRST + [
            "birth ann", "years 2", "birth ann", "birth ann.1", "land dale bob 7",
            "gift hill 0 ann: to kids ann 6 until year 1830; to eve when year 1820; to kids ann.1 25 when dead eve",
            "gift dale 0 bob: to ann.2 when age ann.2 9 until age eve 60; to kids ann.1 3",
            "sell hill 1 ann.1 ann.1 bob 1/3", "sell dale 2 ann.1.1 ann.1.1 eve 2/7",
        ]
        lump, single = ruled(1800, 60, texts), ruled(1800, 60, texts)
        for many in (1, 7, 30, 60):
            lump.years(many)
            for turn in range(many):
                single.years(1)
            self.assertEqual(whole_realm(lump), whole_realm(single))


if __name__ == "__main__":
    unittest.main()
