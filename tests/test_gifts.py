"""Gifts and what stands against them (points 0.2, 15, 21 and 23)."""

import unittest

from deadhand.errors import (
    Gone, LandError, Never, NoLand, NoLayer, NoPerson, NotWhole, NoText, OutOfBound, Shut, TooDeep,
)
from helping import HUGE, NOT_WELL_WRITTEN
from judging import kids, one
from realms import RealmChecks, row, rule, ruled, whole_realm

# ann lives with ann.1 (dead) and ann.2; old is dead with old.1 alive; bob and eve live.
FIRST = [
    "arrive ann 20", "arrive bob 30", "arrive eve 40", "arrive old 90", "birth ann", "birth ann", "birth old",
    "death ann.1", "death old", "land hill ann 12",
]
GOOD = row(one("bob"))


def first():
    return ruled(1800, 21, FIRST)


class GiftCase(unittest.TestCase, RealmChecks):

    def check_refused(self, kind, bad):
        """A row is refused alone, and behind and ahead of good ones."""
        realm = first()
        for rows in ([bad], [GOOD, bad], [bad, GOOD], [GOOD, bad, GOOD]):
            with self.subTest(bad, rows=len(rows)):
                self.refused(realm, kind, realm.gift, "hill", 0, "ann", rows)
        self.assertEqual(realm.how_many("hill"), 1)
        self.assertEqual(realm.gift("hill", 0, "ann", [GOOD]), [1])

    def check_done(self, good, realm=None):
        realm = realm or first()
        many = realm.how_many("hill")
        with self.subTest(good):
            self.assertEqual(realm.gift("hill", 0, "ann", [GOOD, good]), [many, many + 1])
            self.assertEqual(realm.shown("hill", many + 1)[:4], (0, *good))


class BoundsTest(GiftCase):

    def test_numbers_of_rows(self):
        realm = first()
        for many in (0, 7, 8, 20):
            self.refused(realm, OutOfBound, realm.gift, "hill", 0, "ann", [GOOD] * many)
        number = 1
        for many in range(1, 7):
            self.assertEqual(realm.gift("hill", 0, "ann", [GOOD] * many), list(range(number, number + many)))
            number += many
        self.assertEqual(realm.how_many("hill"), 22)

    def test_numbers_of_needs_and_ends(self):
        atom = ("year", 1805)
        for many in range(7):
            self.check_done(row(one("bob"), [atom] * many, [atom] * (6 - many)))
        for many in (7, 8):
            self.check_refused(OutOfBound, row(one("bob"), [atom] * many))
            self.check_refused(OutOfBound, row(one("bob"), [], [atom] * many))

    def test_years(self):
        for year in (0, 1, 9998, 9999):
            self.check_done(row(one("bob"), [("year", year)], [("year", year)]))
        for year in (-1, 10000, -2, 10001, HUGE, -HUGE):
            self.check_refused(OutOfBound, row(one("bob"), [("year", year)]))
            self.check_refused(OutOfBound, row(one("bob"), [("year", 5)], [("year", year)]))

    def test_ages(self):
        for age in (0, 1, 119, 120):
            self.check_done(row(kids("ann", age), [("age", "bob", age)], [("age", "ann.2", age)]))
        for age in (-1, 121, -2, 122, HUGE, -HUGE):
            self.check_refused(OutOfBound, row(kids("ann", age)))
            self.check_refused(OutOfBound, row(one("bob"), [("age", "ann", age)]))
            self.check_refused(OutOfBound, row(one("bob"), [], [("age", "ann", age)]))

    def test_layers_above(self):
        realm = first()
        for number in range(4):
            self.assertEqual(realm.gift("hill", number, "ann" if number == 0 else "bob", [GOOD]), [number + 1])
        self.refused(realm, TooDeep, realm.gift, "hill", 4, "bob", [GOOD])
        self.assertEqual(realm.trail("hill"), [0, 1, 2, 3, 4])
        self.assertEqual(realm.gift("hill", 3, "bob", [GOOD]), [5])
        self.refused(realm, TooDeep, realm.gift, "hill", 5, "bob", [GOOD])


class NamesTest(GiftCase):

    def test_not_well_written(self):
        for name in NOT_WELL_WRITTEN:
            self.check_refused(NoText, row(one(name)))
            self.check_refused(NoText, row(kids(name, 5)))
            for kind in ("born", "dead"):
                self.check_refused(NoText, row(one("bob"), [(kind, name)]))
                self.check_refused(NoText, row(one("bob"), [], [("year", 3), (kind, name)]))
            self.check_refused(NoText, row(one("bob"), [("age", name, 5)]))
            self.check_refused(NoText, row(one("bob"), [], [("age", name, 5)]))
        for word in NOT_WELL_WRITTEN + ["ann.1", "war.1"]:
            self.check_refused(NoText, row(one("bob"), [("comes", word)]))
            self.check_refused(NoText, row(one("bob"), [], [("comes", word)]))

    def test_words_that_are_not_in_the_book(self):
        for name in ("zoe", "zoe.1", "zoe.1.2.3.4.5", "hill", "an"):
            self.check_refused(NoPerson, row(one(name)))
            for kind in ("born", "dead"):
                self.check_refused(NoPerson, row(one("bob"), [(kind, name)]))
                self.check_refused(NoPerson, row(one("bob"), [], [(kind, name)]))
            self.check_refused(NoPerson, row(one("bob"), [("age", name, 5)]))
            self.check_refused(NoPerson, row(one("bob"), [], [("age", name, 5)]))
        for name in ("zoe", "zoe.1", "zoe.1.2.3.4"):
            self.check_refused(NoPerson, row(kids(name, 5)))
        # A happening may have any word.
        self.check_done(row(one("bob"), [("comes", "zoe")], [("comes", "hill")]))

    def test_dead_holders(self):
        self.check_refused(Gone, row(one("ann.1")))
        self.check_refused(Gone, row(one("old")))

    def test_holders_that_can_never_be_born(self):
        for name in ("ann.1.1", "ann.1.1.1.1.1", "old.2", "old.2.1"):
            self.check_refused(Never, row(one(name)))
        for name in ("ann.1.1", "ann.1.1.1.1", "old.2"):
            self.check_refused(Never, row(kids(name, 5)))

    def test_classes_of_names_with_five_numbers(self):
        for name in ("ann.2.1.1.1.1", "ann.3.1.1.1.1"):
            self.check_refused(TooDeep, row(kids(name, 5)))
            self.check_done(row(one(name)))
        self.check_done(row(kids("ann.2.1.1.1", 5)))

    def test_what_is_no_cause_to_refuse(self):
        self.check_done(row(kids("old", 5)))
        self.check_done(row(kids("ann.1", 5)))
        self.check_done(row(one("ann.3.4")))
        self.check_done(row(one("bob"), [("born", "old.9"), ("dead", "ann.1.1"), ("age", "old", 120), ("age", "old", 5)]))
        self.check_done(row(one("bob"), [], [("born", "old.9"), ("dead", "old"), ("year", 0)]))
        self.check_done(row(one("ann")))

    def test_not_well_written_is_told_ahead_of_all_else(self):
        realm = first()
        for bad in (row(one("ann.0")), row(kids("", 5)), row(one("bob"), [("dead", "crown")]),
                    row(one("bob"), [], [("comes", "War")]), row(one("bob"), [("age", "ann.01", 121)])):
            for rows in ([row(one("zoe")), bad], [row(one("old"), [("year", -1)]), bad], [bad] * 7):
                self.refused(realm, NoText, realm.gift, "hill", 0, "bob", rows)

    def test_several_faults(self):
        realm = first()
        ahead = whole_realm(realm)
        for rows in ([row(one("zoe"), [("year", -1)])], [row(one("old")), row(kids("ann", 121))], [GOOD] * 7 + [row(one(""))]):
            with self.assertRaises(LandError):
                realm.gift("hill", 0, "bob", rows)
            self.assertEqual(whole_realm(realm), ahead)


class GiverTest(GiftCase):

    def test_what_is_not_there(self):
        realm = first()
        for word in ("dale", "", "ann", "Hill"):
            self.refused(realm, NoLand, realm.gift, word, 0, "ann", [GOOD])
        for number in (1, -1, 2, HUGE):
            self.refused(realm, NoLayer, realm.gift, "hill", number, "ann", [GOOD])
            # Nothing is said of what isn't there, though bob owns nothing.
            self.refused(realm, NoLayer, realm.gift, "hill", number, "bob", [GOOD])

    def test_who_is_not_the_only_owner(self):
        realm = first()
        for giver in ("bob", "ann.2"):
            self.refused(realm, NotWhole, realm.gift, "hill", 0, giver, [GOOD])
        for giver, kinds in (("zoe", (NoPerson, NotWhole)), ("ann.3", (NoPerson, NotWhole)), ("old", (Gone, NotWhole))):
            ahead = whole_realm(realm)
            with self.assertRaises(kinds):
                realm.gift("hill", 0, giver, [GOOD])
            self.assertEqual(whole_realm(realm), ahead)
        rule(realm, "sell hill 0 ann ann bob 1/100")
        for giver in ("ann", "bob"):
            self.refused(realm, NotWhole, realm.gift, "hill", 0, giver, [GOOD])
        rule(realm, "sell hill 0 ann bob ann 1/100")
        self.assertEqual(realm.gift("hill", 0, "ann", [GOOD]), [1])

    def test_one_who_bought_the_whole(self):
        realm = first()
        rule(realm, "sell hill 0 ann ann bob 1/2")
        rule(realm, "sell hill 0 ann ann bob 2/4")
        self.refused(realm, NotWhole, realm.gift, "hill", 0, "ann", [GOOD])
        self.assertEqual(realm.gift("hill", 0, "bob", [row(one("ann"))]), [1])

    def test_one_who_was_left_the_whole(self):
        realm = first()
        rule(realm, "death ann")
        self.assertEqual(realm.gift("hill", 0, "ann.2", [GOOD]), [1])
        rule(realm, "death bob")
        ahead = whole_realm(realm)
        for giver in ("bob", "eve", "ann.2"):
            with self.assertRaises((Gone, NotWhole)):
                realm.gift("hill", 1, giver, [GOOD])
            self.assertEqual(whole_realm(realm), ahead)

    def test_classes_have_no_only_owner(self):
        realm = first()
        rule(realm, "gift hill 0 ann: to kids ann 0")
        self.assertEqual(realm.owners("hill", 1), [("ann.2", [("ann.2", 1, 1)])])
        self.refused(realm, NotWhole, realm.gift, "hill", 1, "ann.2", [GOOD])
        self.refused(realm, NotWhole, realm.gift, "hill", 1, "ann", [GOOD])

    def test_a_holder_who_is_not_born_yet(self):
        realm = first()
        rule(realm, "gift hill 0 ann: to ann.3")
        ahead = whole_realm(realm)
        with self.assertRaises((NoPerson, NotWhole)):
            realm.gift("hill", 1, "ann.3", [GOOD])
        self.assertEqual(whole_realm(realm), ahead)
        rule(realm, "birth ann")
        self.assertEqual(realm.gift("hill", 1, "ann.3", [GOOD]), [2])

    def test_shut_layers(self):
        realm = first()
        # Layer 1 is late, 2 over by its end, 3 and 6 failed, 4 will be dropped; 5 only hangs.
        rule(realm, "gift hill 0 ann: to bob when comes war; to bob until year 1800; to bob when born old.2; to bob; "
                    "to bob when year 1810; to ann.3 when born old.2")
        rule(realm, "drop hill 4 bob")
        for number in (1, 2, 3, 4):
            self.refused(realm, Shut, realm.gift, "hill", number, "bob", [GOOD])
        self.assertEqual(realm.gift("hill", 5, "bob", [GOOD]), [7])
        ahead = whole_realm(realm)
        with self.assertRaises((Shut, NoPerson, NotWhole)):
            realm.gift("hill", 6, "ann.3", [GOOD])
        self.assertEqual(whole_realm(realm), ahead)

    def test_done_when_it_has_become_good(self):
        realm = first()
        rows = [row(one("zoe"), [("dead", "eve")]), row(one("eve.1"))]
        self.refused(realm, NoPerson, realm.gift, "hill", 0, "ann", rows)
        rule(realm, "arrive zoe 3")
        self.assertEqual(realm.gift("hill", 0, "ann", rows), [1, 2])
        self.refused(realm, NotWhole, realm.gift, "hill", 0, "bob", rows)
        rule(realm, "sell hill 0 ann ann bob 1/1")
        self.assertEqual(realm.gift("hill", 0, "bob", rows), [3, 4])
        rule(realm, "death eve")
        self.refused(realm, Never, realm.gift, "hill", 0, "bob", rows)
        rule(realm, "death zoe")
        self.refused(realm, Gone, realm.gift, "hill", 0, "bob", rows[:1])

    def test_the_papers_of_one_gift(self):
        realm = first()
        rule(realm, "gift hill 0 ann: to ann.3; to ann.3.1; to kids ann 21; to kids ann 22; to bob; to old.1.1")
        kinds = [realm.paper_of("hill", number)[0] for number in range(1, 7)]
        self.assertEqual(kinds, ["sure", "late", "sure", "late", "sure", "sure"])
        self.assertEqual([realm.shown("hill", number)[5] for number in range(7)],
                         [False, False, True, False, True, False, False])
        self.assertEqual(realm.paper_of("hill", 6), ("sure", ["old.1"]))


if __name__ == "__main__":
    unittest.main()
