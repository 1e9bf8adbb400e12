"""Lands, layers, papers, ledgers and deaths in a realm (points 0.1, 0.2, 11 to 15, 19 and 20)."""

import copy
import unittest

from deadhand.errors import (
    Gone, NoLand, NoLayer, NoPerson, NoText, OutOfBound, Taken, TooDeep,
)
from deadhand.realm import Realm
from deadhand.world import World
from helping import HUGE, NOT_WELL_WRITTEN, grown, refused_with, whole_world
from judging import check_story, kids, one
from realms import RealmChecks, row, rule, ruled, whole_land, whole_layer, whole_realm

FIRST = ["arrive ann 20", "arrive bob 30", "arrive eve 40", "land hill ann 12"]


class RealmCase(unittest.TestCase, RealmChecks):

    def check_trail(self, realm, word, numbers, ledger):
        self.assertEqual(realm.trail(word), numbers)
        self.assertEqual(realm.sitting(word), numbers[-1])
        self.assertEqual(realm.sitters(word), ledger)


class FirstDaysTest(RealmCase):

    def test_bounds(self):
        for year, term in ((0, 0), (9999, 60), (1800, 21)):
            realm = Realm(year, term)
            self.assertIs(type(realm.world), World)
            self.assertEqual(realm.world.year, year)
        for year, term in ((-1, 0), (10000, 0), (1800, -1), (1800, 61), (HUGE, 5), (5, HUGE), (-1, 61)):
            refused_with(self, OutOfBound, Realm, year, term)

    def test_a_first_day(self):
        realm = Realm(1800, 21)
        rule(realm, "arrive ann 20")
        self.assertIsNone(realm.land("hill", "ann", 12))
        self.check_trail(realm, "hill", [0], [("ann", 1, 1)])
        self.assertEqual(realm.how_many("hill"), 1)
        self.assertEqual(realm.paper_of("hill", 0), ("sure", []))
        self.assertEqual(realm.owners("hill", 0), [("ann", [("ann", 1, 1)])])
        self.assertEqual(realm.shown("hill", 0), (-1, ("one", "ann"), [], [], 1800, False, False))
        self.assertEqual((realm.stand("hill", 0), realm.since("hill", 0)), ("met", 1800))
        self.assertEqual((realm.deadline("hill", 0), realm.watch("hill", 0)), (None, "kept"))
        self.assertEqual(realm.purse("ann"), (0, 1))

    def test_the_deadline_of_the_rest(self):
        realm = ruled(1800, 21, FIRST + ["years 5", "land dale bob 3", "death ann", "death bob", "arrive zoe 1"])
        self.assertEqual((realm.deadline("hill", 0), realm.deadline("dale", 0)), (None, None))
        rule(realm, "years 2")
        rule(realm, "death eve")
        self.assertEqual((realm.deadline("hill", 0), realm.deadline("dale", 0)), (1828, 1828))
        rule(realm, "years 60")
        self.assertEqual((realm.watch("hill", 0), realm.watch("dale", 0)), ("kept", "kept"))
        self.assertEqual((realm.since("hill", 0), realm.since("dale", 0)), (1800, 1805))

    def test_lands_beside_each_other(self):
        realm = ruled(1800, 21, FIRST + ["land dale ann 5", "land ann bob 7", "comes dale"])
        ahead = whole_land(realm, "dale"), whole_land(realm, "ann")
        for text in ("gift hill 0 ann: to bob; to kids ann 21", "sell hill 1 bob bob eve 1/2", "sell hill 1 bob eve bob 1/2",
                     "gift hill 1 bob: to eve", "drop hill 1 bob"):
            rule(realm, text)
            self.assertEqual((whole_land(realm, "dale"), whole_land(realm, "ann")), ahead)
        self.assertEqual(realm.how_many("hill"), 4)

    def test_lands_refused(self):
        realm = ruled(1800, 21, FIRST + ["arrive old 90", "death old", "comes war"])
        for word in NOT_WELL_WRITTEN + ["hill.1"]:
            self.refused(realm, NoText, realm.land, word, "ann", 12)
        self.refused(realm, Taken, realm.land, "hill", "bob", 12)
        for owner in ("zoe", "ann.1", "ann.1.1", "hill", "war"):
            self.refused(realm, NoPerson, realm.land, "dale", owner, 12)
        self.refused(realm, Gone, realm.land, "dale", "old", 12)
        for rent in (0, 1001, -1, 1002, HUGE, -HUGE):
            self.refused(realm, OutOfBound, realm.land, "dale", "ann", rent)
        for word, rent in (("dale", 1), ("ann", 1000), ("war", 2), ("old", 3)):
            self.assertIsNone(realm.land(word, "ann", rent))
            self.assertEqual(realm.how_many(word), 1)

    def test_what_is_not_there(self):
        realm = ruled(1800, 21, FIRST + ["gift hill 0 ann: to bob"])
        by_word = (realm.how_many, realm.trail, realm.sitting, realm.sitters)
        by_number = (realm.stand, realm.since, realm.paper_of, realm.owners, realm.shown, realm.deadline, realm.watch)
        for word in ("dale", "ann", "hil", "", "hill\n"):
            for ask in by_word:
                self.refused(realm, NoLand, ask, word)
            for ask in by_number:
                self.refused(realm, NoLand, ask, word, 0)
        for number in (2, -1, -2, 3, HUGE, -HUGE):
            for ask in by_number:
                self.refused(realm, NoLayer, ask, "hill", number)

    def test_deeds_of_the_world(self):
        realm, world = ruled(1800, 21, FIRST), grown(1800, FIRST[:-1])
        self.assertIsNone(realm.arrive("zoe", 4))
        self.assertEqual(realm.birth("zoe"), "zoe.1")
        self.assertIsNone(realm.death("zoe"))
        self.assertIsNone(realm.comes("war"))
        self.assertIsNone(realm.years(60))
        world.arrive("zoe", 4)
        world.birth("zoe")
        world.death("zoe")
        world.comes("war")
        world.pass_years(60)
        self.assertEqual(whole_world(realm.world), whole_world(world))
        for text in NOT_WELL_WRITTEN:
            self.refused(realm, NoText, realm.arrive, text, 20)
            self.refused(realm, NoText, realm.comes, text)
            self.refused(realm, NoPerson, realm.birth, text)
            self.refused(realm, NoPerson, realm.death, text)
        self.refused(realm, Taken, realm.arrive, "ann", 20)
        self.refused(realm, Taken, realm.comes, "war")
        self.refused(realm, Gone, realm.birth, "zoe")
        self.refused(realm, Gone, realm.death, "zoe")
        for number in (0, 61, -1, HUGE):
            self.refused(realm, OutOfBound, realm.years, number)
        for number in (-1, 121):
            self.refused(realm, OutOfBound, realm.arrive, "zed", number)
        name = "ann"
        for number in range(5):
            name = realm.birth(name)
        self.refused(realm, TooDeep, realm.birth, name)


class LayersTest(RealmCase):

    def test_open_and_shut_again(self):
        realm = ruled(1800, 60, FIRST + [
            "gift hill 0 ann: to bob when year 1803 until comes war; to eve when age ann 22 and dead bob",
            "gift hill 1 bob: to ann.1 until dead ann.1",
        ])
        self.check_trail(realm, "hill", [0], [("ann", 1, 1)])
        rule(realm, "years 3")
        self.check_trail(realm, "hill", [0, 1], [("bob", 1, 1)])
        rule(realm, "birth ann")
        self.check_trail(realm, "hill", [0, 1, 3], [("ann.1", 1, 1)])
        rule(realm, "death ann.1")
        self.check_trail(realm, "hill", [0, 1], [("bob", 1, 1)])
        rule(realm, "death bob")
        self.check_trail(realm, "hill", [0, 1], [("crown", 1, 1)])
        rule(realm, "comes war")
        self.check_trail(realm, "hill", [0, 2], [("eve", 1, 1)])
        rule(realm, "drop hill 2 eve")
        self.check_trail(realm, "hill", [0], [("ann", 1, 1)])
        self.assertEqual(realm.shown("hill", 2)[5:], (False, True))

    def test_a_need_that_fails(self):
        realm = ruled(1800, 60, FIRST + ["gift hill 0 ann: to bob when age eve 60; to ann.1; to bob"])
        self.check_trail(realm, "hill", [0, 3], [("bob", 1, 1)])
        rule(realm, "death eve")
        self.assertEqual((realm.stand("hill", 1), realm.since("hill", 1)), ("failed", 1800))
        rule(realm, "years 2")
        rule(realm, "death ann")
        self.assertEqual((realm.stand("hill", 2), realm.since("hill", 2)), ("failed", 1802))
        self.check_trail(realm, "hill", [0, 3], [("bob", 1, 1)])

    def test_two_open_layers_out_of_one(self):
        realm = ruled(1800, 60, FIRST + ["gift hill 0 ann: to bob", "gift hill 0 ann: to eve; to ann"])
        self.check_trail(realm, "hill", [0, 1], [("bob", 1, 1)])
        rule(realm, "drop hill 1 bob")
        self.check_trail(realm, "hill", [0, 2], [("eve", 1, 1)])

    def test_a_layer_below_one_that_is_not_open_any_more(self):
        realm = ruled(1800, 60, FIRST + ["gift hill 0 ann: to bob until year 1802", "gift hill 1 bob: to eve"])
        self.check_trail(realm, "hill", [0, 1, 2], [("eve", 1, 1)])
        rule(realm, "years 2")
        self.check_trail(realm, "hill", [0], [("ann", 1, 1)])
        # It isn't shut itself: it can be given out of, sold and dropped, though it sits no more.
        rule(realm, "gift hill 2 eve: to ann")
        rule(realm, "sell hill 2 eve eve bob 1/1")
        rule(realm, "drop hill 2 bob")
        self.check_trail(realm, "hill", [0], [("ann", 1, 1)])

    def test_a_class_that_hangs_and_is_open(self):
        realm = ruled(1800, 60, FIRST + ["birth ann", "years 5", "birth ann", "gift hill 0 ann: to kids ann 10"])
        self.check_trail(realm, "hill", [0], [("ann", 1, 1)])
        rule(realm, "years 5")
        self.check_trail(realm, "hill", [0, 1], [("ann.1", 1, 1)])
        self.assertEqual(realm.stand("hill", 1), "hangs")
        rule(realm, "years 5")
        self.check_trail(realm, "hill", [0, 1], [("ann.1", 1, 2), ("ann.2", 1, 2)])
        rule(realm, "death ann")
        self.assertEqual((realm.stand("hill", 1), realm.since("hill", 1)), ("met", 1815))

    def test_both_the_needs_and_the_ends_are_shown(self):
        realm = ruled(1800, 60, FIRST)
        needs, ends = [("year", 1800), ("born", "ann.1")], [("dead", "bob"), ("comes", "war")]
        realm.gift("hill", 0, "ann", [row(one("ann.1"), needs, ends), row(kids("ann", 7))])
        self.assertEqual(realm.shown("hill", 1), (0, one("ann.1"), needs, ends, 1800, False, False))
        self.assertEqual(realm.shown("hill", 2), (0, kids("ann", 7), [], [], 1800, False, False))


class PaperTest(RealmCase):

    def test_a_late_layer(self):
        realm = ruled(1800, 21, FIRST + ["birth ann", "gift hill 0 ann: to kids ann 22; to bob when comes war; to eve"])
        day = copy.deepcopy(realm.world)
        papers = [realm.paper_of("hill", number) for number in (1, 2)]
        for (kind, story), (holder, atoms) in zip(papers, ((kids("ann", 22), []), (one("bob"), [("comes", "war")]))):
            self.assertEqual(kind, "late")
            check_story(self, day, holder, atoms, 21, story)
        for text in ("years 30", "birth ann", "comes war", "death ann", "death bob", "death eve", "years 60", "birth ann.1",
                     "death ann.1"):
            rule(realm, text)
            self.assertEqual([realm.paper_of("hill", number) for number in (1, 2)], papers)
            for number in (1, 2):
                self.assertIs(realm.shown("hill", number)[5], True)
                self.assertNotIn(number, realm.trail("hill"))
        self.assertEqual((realm.stand("hill", 2), realm.since("hill", 2), realm.watch("hill", 2)), ("met", 1830, "kept"))
        self.assertEqual((realm.stand("hill", 1), realm.deadline("hill", 1)), ("met", 1911))

    def test_a_late_layer_that_hangs_too_long(self):
        realm = ruled(1800, 3, ["arrive ann 20", "land hill ann 1", "gift hill 0 ann: to ann when comes war", "death ann"])
        for year, how in ((1800, "hangs"), (1803, "hangs"), (1804, "over")):
            if year > realm.world.year:
                realm.years(year - realm.world.year)
            self.assertEqual((realm.deadline("hill", 1), realm.watch("hill", 1)), (1803, how))
        rule(realm, "comes war")
        self.assertEqual((realm.stand("hill", 1), realm.since("hill", 1), realm.watch("hill", 1)), ("met", 1804, "over"))

    def test_a_sure_layer(self):
        realm = ruled(1800, 21, FIRST + ["birth ann", "birth ann", "gift hill 0 ann: to kids ann 21 when dead bob"])
        paper = ("sure", ["ann", "ann.1", "ann.2", "bob"])
        self.assertEqual(realm.paper_of("hill", 1), paper)
        for text in ("death bob", "death ann.1", "years 20", "death ann", "years 1", "death ann.2", "years 60"):
            rule(realm, text)
            self.assertEqual(realm.paper_of("hill", 1), paper)
        self.assertEqual((realm.stand("hill", 1), realm.since("hill", 1)), ("met", 1821))
        self.assertEqual((realm.watch("hill", 1), realm.deadline("hill", 1)), ("kept", None))

    def test_told_lists_that_are_changed(self):
        realm = ruled(1800, 21, FIRST + [
            "birth ann", "gift hill 0 ann: to kids ann 22; to kids ann 21 when dead bob until dead eve",
        ])
        # A copy, lest what is told be changed in it as well.
        ahead = copy.deepcopy(whole_realm(realm))
        told = [realm.paper_of("hill", 1)[1], realm.paper_of("hill", 2)[1], realm.paper_of("hill", 0)[1]]
        told += [realm.trail("hill"), realm.sitters("hill"), realm.owners("hill", 1), realm.owners("hill", 0)[0][1]]
        told += [realm.owners("hill", 1)[0][1], realm.shown("hill", 2)[2], realm.shown("hill", 2)[3]]
        told += [realm.world.lives.names()]
        for things in told:
            things.append("changed")
            self.assertEqual(whole_realm(realm), ahead)
            things.clear()
            self.assertEqual(whole_realm(realm), ahead)
        rule(realm, "years 5")
        rule(realm, "death ann.1")
        self.assertEqual(realm.owners("hill", 1), [("ann.1", [("ann", 1, 1)])])

    def test_handed_in_lists_that_are_changed(self):
        realm = ruled(1800, 21, FIRST)
        needs, ends = [("dead", "bob")], [("comes", "war")]
        rows = [(one("ann.1"), needs, ends)]
        numbers = realm.gift("hill", 0, "ann", rows)
        self.assertEqual((rows, needs, ends), ([(one("ann.1"), needs, ends)], [("dead", "bob")], [("comes", "war")]))
        ahead = copy.deepcopy(whole_realm(realm))
        for things in (needs, ends, rows, numbers):
            things.clear()
        self.assertEqual(whole_realm(realm), ahead)
        self.assertEqual(realm.shown("hill", 1)[2:4], ([("dead", "bob")], [("comes", "war")]))


class LedgersTest(RealmCase):

    def test_members_of_a_class(self):
        realm = ruled(1800, 60, FIRST + [
            "birth ann", "birth ann", "birth ann", "years 3", "death ann.2", "gift hill 0 ann: to kids ann 10",
        ])
        whole = [(name, [(name, 1, 1)]) for name in ("ann.1", "ann.3", "ann.4")]
        self.assertEqual(realm.owners("hill", 1), whole[:2])
        rule(realm, "birth ann")
        self.assertEqual(realm.owners("hill", 1), whole)
        # One who dies too young keeps a ledger, in which the heirs are, but has no seat.
        rule(realm, "years 2")
        rule(realm, "death ann.3")
        self.assertEqual(realm.owners("hill", 1), [whole[0], ("ann.3", [("ann", 1, 1)]), whole[2]])
        rule(realm, "years 5")
        self.check_trail(realm, "hill", [0, 1], [("ann.1", 1, 1)])
        # One who had a seat keeps it when dead, and the heirs sit for it.
        rule(realm, "birth ann.1")
        rule(realm, "death ann.1")
        self.assertEqual(realm.owners("hill", 1)[0], ("ann.1", [("ann.1.1", 1, 1)]))
        rule(realm, "years 3")
        self.check_trail(realm, "hill", [0, 1], [("ann.1.1", 1, 2), ("ann.4", 1, 2)])

    def test_a_class_of_one_who_comes_later(self):
        realm = ruled(1800, 60, FIRST + ["gift hill 0 ann: to kids ann.1 0"])
        self.assertEqual(realm.owners("hill", 1), [])
        # A class of one who may still come is late: it can be waited for for ever.
        self.assertIs(realm.shown("hill", 1)[5], True)
        for text in ("birth ann", "birth ann.1", "birth ann.1"):
            rule(realm, text)
        self.assertEqual(realm.owners("hill", 1), [(name, [(name, 1, 1)]) for name in ("ann.1.1", "ann.1.2")])
        self.check_trail(realm, "hill", [0], [("ann", 1, 1)])

    def test_shares_of_seats_are_mixed(self):
        realm = ruled(1800, 60, FIRST + ["birth ann", "birth ann", "birth ann", "gift hill 0 ann: to kids ann 0"])
        rule(realm, "sell hill 1 ann.1 ann.1 bob 1/2")
        rule(realm, "sell hill 1 ann.2 ann.2 ann.1 1/3")
        self.assertEqual(realm.sitters("hill"), [("ann.1", 5, 18), ("ann.2", 2, 9), ("ann.3", 1, 3), ("bob", 1, 6)])

    def test_left_out(self):
        realm = ruled(1800, 60, FIRST + ["birth ann", "years 30", "death ann.1", "gift hill 0 ann: to kids ann 10"])
        self.assertEqual(realm.owners("hill", 1), [])
        self.check_trail(realm, "hill", [0], [("ann", 1, 1)])
        rule(realm, "death ann")
        self.assertEqual((realm.stand("hill", 1), realm.since("hill", 1)), ("failed", 1830))


class DeathsTest(RealmCase):

    def test_shares_in_several_seats_of_several_lands(self):
        realm = ruled(1800, 60, FIRST + [
            "birth ann", "birth ann", "land dale bob 3", "gift hill 0 ann: to kids ann 0; to bob; to eve when comes war",
            "sell dale 0 bob bob ann 1/3", "sell hill 1 ann.1 ann.1 ann 1/2", "sell hill 2 bob bob ann 1/4",
        ])
        rule(realm, "death ann")
        self.assertEqual(realm.owners("hill", 0), [("ann", [("ann.1", 1, 2), ("ann.2", 1, 2)])])
        self.assertEqual(realm.owners("hill", 1), [
            ("ann.1", [("ann.1", 3, 4), ("ann.2", 1, 4)]), ("ann.2", [("ann.2", 1, 1)]),
        ])
        self.assertEqual(realm.owners("hill", 2), [("bob", [("ann.1", 1, 8), ("ann.2", 1, 8), ("bob", 3, 4)])])
        self.assertEqual(realm.owners("dale", 0), [("bob", [("ann.1", 1, 6), ("ann.2", 1, 6), ("bob", 2, 3)])])

    def test_shut_layers_pass_too(self):
        realm = ruled(1800, 60, FIRST + [
            "birth eve", "gift hill 0 ann: to eve; to eve when comes war; to eve until year 1800", "drop hill 1 eve",
            "death eve",
        ])
        for number in (1, 2, 3):
            self.assertEqual(realm.owners("hill", number), [("eve", [("eve.1", 1, 1)])])

    def test_heirs_up_over_the_parents(self):
        realm = ruled(1800, 60, FIRST + ["birth ann", "birth ann", "birth ann.2", "death ann.2", "death ann"])
        self.assertEqual(realm.owners("hill", 0), [("ann", [("ann.1", 1, 2), ("ann.2.1", 1, 2)])])
        rule(realm, "death ann.1")
        self.assertEqual(realm.owners("hill", 0), [("ann", [("ann.2.1", 1, 1)])])

    def test_the_crown(self):
        realm = ruled(1800, 60, FIRST + ["birth ann", "sell hill 0 ann ann bob 1/5", "death ann.1", "death ann"])
        self.assertEqual(realm.owners("hill", 0), [("ann", [("bob", 1, 5), ("crown", 4, 5)])])
        rule(realm, "death bob")
        self.assertEqual(realm.sitters("hill"), [("crown", 1, 1)])
        rule(realm, "death eve")
        self.assertEqual(realm.sitters("hill"), [("crown", 1, 1)])

    def test_heirs_as_they_are_with_this_one_dead(self):
        realm = ruled(1800, 60, FIRST + ["birth ann", "birth ann.1", "birth ann.1", "death ann"])
        for name, ledger in (("ann.1", [("ann.1.1", 1, 2), ("ann.1.2", 1, 2)]), ("ann.1.1", [("ann.1.2", 1, 1)]),
                             ("ann.1.2", [("crown", 1, 1)])):
            rule(realm, f"death {name}")
            self.assertEqual(realm.owners("hill", 0), [("ann", ledger)])

    def test_a_holder_who_is_not_born_yet(self):
        realm = ruled(1800, 60, FIRST + ["gift hill 0 ann: to ann.1"])
        self.assertEqual(realm.owners("hill", 1), [("ann.1", [("ann.1", 1, 1)])])
        ahead = realm.owners("hill", 1)
        rule(realm, "death bob")
        self.assertEqual(realm.owners("hill", 1), ahead)
        rule(realm, "birth ann")
        self.check_trail(realm, "hill", [0, 1], [("ann.1", 1, 1)])
        rule(realm, "death ann.1")
        self.check_trail(realm, "hill", [0, 1], [("ann", 1, 1)])


class TwinTest(RealmCase):

    def test_a_twin_goes_its_own_way(self):
        realm = ruled(9990, 60, FIRST + ["birth ann", "comes war", "gift hill 0 ann: to kids ann 5; to bob when comes sun",
                                         "years 20"])
        ahead = whole_realm(realm)
        twin = realm.twin()
        self.assertEqual(whole_realm(twin), ahead)
        for text in ("years 9", "birth ann", "death ann.1", "comes sun", "land dale bob 5", "sell hill 0 ann ann eve 1/1",
                     "gift hill 0 eve: to bob", "drop hill 3 bob", "arrive zoe 5", "death ann"):
            rule(realm, text)
            self.assertEqual(whole_realm(twin), ahead)
        behind = whole_realm(realm)
        rule(twin, "birth ann")
        rule(twin, "death bob")
        self.assertEqual(whole_realm(realm), behind)
        self.assertNotEqual(whole_layer(realm, "hill", 1), whole_layer(twin, "hill", 1))


if __name__ == "__main__":
    unittest.main()
