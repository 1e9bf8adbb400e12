"""Sales and drops (points 0.2, 15, 22 and 23)."""

import unittest

from deadhand.errors import Gone, NoLand, NoLayer, NoPerson, NoSeat, NotWhole, OutOfBound, Short, Shut
from helping import HUGE, NOT_WELL_WRITTEN
from realms import RealmChecks, rule, ruled, whole_realm

# ann.1 is left out of the class of layer 1; layer 2 is one's who isn't born yet; 3 hangs; 4 is late; 5 is over.
FIRST = [
    "arrive ann 20", "arrive bob 30", "arrive eve 40", "arrive old 90", "birth ann", "birth ann", "death ann.1",
    "death old", "land hill ann 12",
    "gift hill 0 ann: to kids ann 10; to ann.3; to bob when year 1805; to bob when comes war; to bob until year 1800",
]


def first():
    return ruled(1800, 21, FIRST)


class SaleTest(unittest.TestCase, RealmChecks):

    def ledger(self, realm, number, seat):
        return dict(realm.owners("hill", number))[seat]

    def test_parts_and_the_whole(self):
        realm = first()
        self.assertIsNone(realm.sell("hill", 0, "ann", "ann", "bob", 1, 3))
        self.assertEqual(self.ledger(realm, 0, "ann"), [("ann", 2, 3), ("bob", 1, 3)])
        realm.sell("hill", 0, "ann", "bob", "eve", 25, 100)
        self.assertEqual(self.ledger(realm, 0, "ann"), [("ann", 2, 3), ("bob", 1, 12), ("eve", 1, 4)])
        realm.sell("hill", 0, "ann", "ann", "eve", 4, 6)
        self.assertEqual(self.ledger(realm, 0, "ann"), [("bob", 1, 12), ("eve", 11, 12)])
        realm.sell("hill", 0, "ann", "bob", "ann", 1, 12)
        self.assertEqual(realm.sitters("hill"), [("ann", 1, 12), ("eve", 11, 12)])

    def test_the_whole_at_once(self):
        for part in ((1, 1), (100, 100), (7, 7)):
            realm = first()
            realm.sell("hill", 0, "ann", "ann", "bob", *part)
            self.assertEqual(realm.owners("hill", 0), [("ann", [("bob", 1, 1)])])

    def test_to_oneself(self):
        realm = first()
        ahead = whole_realm(realm)
        for part in ((1, 1), (1, 2), (99, 100)):
            self.assertIsNone(realm.sell("hill", 0, "ann", "ann", "ann", *part))
            self.assertEqual(whole_realm(realm), ahead)
        self.refused(realm, Short, realm.sell, "hill", 0, "ann", "bob", "bob", 1, 100)

    def test_more_than_the_seller_has(self):
        realm = first()
        realm.sell("hill", 0, "ann", "ann", "bob", 1, 3)
        self.refused(realm, Short, realm.sell, "hill", 0, "ann", "bob", "eve", 34, 100)
        self.refused(realm, Short, realm.sell, "hill", 0, "ann", "ann", "eve", 1, 1)
        self.refused(realm, Short, realm.sell, "hill", 0, "ann", "eve", "ann", 1, 100)
        realm.sell("hill", 0, "ann", "bob", "eve", 33, 100)
        self.assertEqual(self.ledger(realm, 0, "ann"), [("ann", 2, 3), ("bob", 1, 300), ("eve", 33, 100)])
        realm.sell("hill", 0, "ann", "ann", "bob", 1, 3)
        realm.sell("hill", 0, "ann", "bob", "eve", 1, 3)

    def test_parts_out_of_bounds(self):
        realm = first()
        for part in ((0, 1), (2, 1), (-1, 1), (1, 0), (0, 0), (1, 101), (101, 101), (100, 101), (1, -1), (-1, -1), (50, 49),
                     (HUGE, HUGE), (1, HUGE), (HUGE, 100), (-HUGE, 5)):
            with self.subTest(part):
                self.refused(realm, OutOfBound, realm.sell, "hill", 0, "ann", "ann", "bob", *part)
        realm.sell("hill", 0, "ann", "ann", "bob", 1, 100)
        self.assertEqual(self.ledger(realm, 0, "ann"), [("ann", 99, 100), ("bob", 1, 100)])

    def test_a_seat_that_waits(self):
        realm = first()
        realm.sell("hill", 1, "ann.2", "ann.2", "bob", 1, 4)
        self.assertEqual(realm.owners("hill", 1), [("ann.2", [("ann.2", 3, 4), ("bob", 1, 4)])])
        self.assertEqual(realm.trail("hill"), [0])
        rule(realm, "years 10")
        self.assertEqual(realm.sitters("hill"), [("ann.2", 3, 4), ("bob", 1, 4)])

    def test_a_holder_who_is_not_born_yet(self):
        realm = first()
        for seller in ("ann", "bob"):
            self.refused(realm, Short, realm.sell, "hill", 2, "ann.3", seller, "bob", 1, 2)
        ahead = whole_realm(realm)
        with self.assertRaises(NoPerson):
            realm.sell("hill", 2, "ann.3", "ann.3", "bob", 1, 2)
        self.assertEqual(whole_realm(realm), ahead)
        rule(realm, "birth ann")
        realm.sell("hill", 2, "ann.3", "ann.3", "bob", 1, 2)
        self.assertEqual(realm.owners("hill", 2), [("ann.3", [("ann.3", 1, 2), ("bob", 1, 2)])])

    def test_a_layer_that_hangs(self):
        realm = first()
        realm.sell("hill", 3, "bob", "bob", "eve", 1, 2)
        self.assertEqual(realm.owners("hill", 3), [("bob", [("bob", 1, 2), ("eve", 1, 2)])])

    def test_seats_that_are_not_there(self):
        realm = first()
        for number, seats in ((0, ["bob", "ann.2", "eve"]), (1, ["ann", "ann.1", "ann.3", "bob"]), (2, ["ann", "ann.4"])):
            for seat in seats + NOT_WELL_WRITTEN + ["zoe", "~", "hill"]:
                with self.subTest(number, seat=seat):
                    self.refused(realm, NoSeat, realm.sell, "hill", number, seat, "ann", "bob", 1, 2)
        for word in ("dale", "", "ann"):
            self.refused(realm, NoLand, realm.sell, word, 0, "ann", "ann", "bob", 1, 2)
            self.refused(realm, NoLand, realm.sell, word, 0, "ann", "bob", "ann", 1, 2)
        for number in (6, -1, -6, HUGE):
            self.refused(realm, NoLayer, realm.sell, "hill", number, "ann", "ann", "bob", 1, 2)
            self.refused(realm, NoLayer, realm.sell, "hill", number, "zoe", "bob", "ann", 1, 2)

    def test_the_dead_and_strangers(self):
        realm = first()
        for name in ("zoe", "ann.3", "ann.9.9"):
            self.refused(realm, NoPerson, realm.sell, "hill", 0, "ann", "ann", name, 1, 2)
            with self.assertRaises((NoPerson, Short)):
                realm.sell("hill", 0, "ann", name, "ann", 1, 2)
        for name in ("old", "ann.1"):
            self.refused(realm, Gone, realm.sell, "hill", 0, "ann", "ann", name, 1, 2)
            with self.assertRaises((Gone, Short)):
                realm.sell("hill", 0, "ann", name, "ann", 1, 2)
        self.assertEqual(realm.owners("hill", 0), [("ann", [("ann", 1, 1)])])

    def test_shut_layers(self):
        realm = first()
        for number in (4, 5):
            self.refused(realm, Shut, realm.sell, "hill", number, "bob", "bob", "eve", 1, 2)
        rule(realm, "drop hill 3 bob")
        self.refused(realm, Shut, realm.sell, "hill", 3, "bob", "bob", "eve", 1, 2)
        rule(realm, "death ann.2")
        rule(realm, "death ann")
        for number in (1, 2):
            self.refused(realm, Shut, realm.sell, "hill", number, f"ann.{number + 1}", "bob", "eve", 1, 2)
        self.refused(realm, NoSeat, realm.sell, "hill", 0, "bob", "bob", "eve", 1, 2)


class DropTest(unittest.TestCase, RealmChecks):

    def test_by_the_only_owner(self):
        realm = first()
        rule(realm, "gift hill 0 ann: to eve")
        self.assertEqual(realm.trail("hill"), [0, 6])
        self.assertIsNone(realm.drop("hill", 6, "eve"))
        self.assertEqual((realm.trail("hill"), realm.shown("hill", 6)[5:]), ([0], (False, True)))
        self.assertEqual((realm.stand("hill", 6), realm.watch("hill", 6)), ("met", "kept"))
        self.assertEqual(realm.owners("hill", 6), [("eve", [("eve", 1, 1)])])

    def test_by_others(self):
        realm = first()
        for name in ("ann", "eve", "ann.2"):
            self.refused(realm, NotWhole, realm.drop, "hill", 3, name)
        for name, kinds in (("zoe", (NoPerson, NotWhole)), ("ann.3", (NoPerson, NotWhole)), ("old", (Gone, NotWhole))):
            ahead = whole_realm(realm)
            with self.assertRaises(kinds):
                realm.drop("hill", 3, name)
            self.assertEqual(whole_realm(realm), ahead)

    def test_by_an_owner_of_a_part(self):
        realm = first()
        rule(realm, "sell hill 3 bob bob eve 1/2")
        for name in ("bob", "eve"):
            self.refused(realm, NotWhole, realm.drop, "hill", 3, name)
        rule(realm, "sell hill 3 bob bob eve 1/2")
        self.refused(realm, NotWhole, realm.drop, "hill", 3, "bob")
        self.assertIsNone(realm.drop("hill", 3, "eve"))

    def test_by_one_who_was_left_the_whole(self):
        realm = first()
        rule(realm, "birth bob")
        rule(realm, "death bob")
        self.assertIsNone(realm.drop("hill", 3, "bob.1"))

    def test_classes(self):
        realm = first()
        for name in ("ann.2", "ann"):
            self.refused(realm, NotWhole, realm.drop, "hill", 1, name)

    def test_the_rest(self):
        realm = first()
        for name in ("ann", "bob"):
            self.refused(realm, NotWhole, realm.drop, "hill", 0, name)
        self.assertEqual(realm.trail("hill"), [0])

    def test_shut_layers(self):
        realm = first()
        for number in (4, 5):
            self.refused(realm, Shut, realm.drop, "hill", number, "bob")
        rule(realm, "drop hill 3 bob")
        self.refused(realm, Shut, realm.drop, "hill", 3, "bob")

    def test_what_is_not_there(self):
        realm = first()
        for word in ("dale", "", "ann"):
            self.refused(realm, NoLand, realm.drop, word, 3, "bob")
        for number in (6, -1, -3, HUGE):
            self.refused(realm, NoLayer, realm.drop, "hill", number, "bob")
            self.refused(realm, NoLayer, realm.drop, "hill", number, "eve")


if __name__ == "__main__":
    unittest.main()
