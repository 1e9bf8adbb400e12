"""Layers by themselves (points 0.1, 11, 13, 15 and 20)."""

import random
import unittest

from deadhand.classes import class_since
from deadhand.errors import Short
from deadhand.heirs import heirs
from deadhand.layers import (
    deadline_of, held_seats, is_only_owner, is_open, is_shut, layer_now, layer_since, layer_stand, move_share, pass_on,
    seat_ledger, seat_names, watched, whole_since, whole_stand,
)
from deadhand.needs import atom_since, atom_stand
from deadhand.terms import judged
from deadhand.world import World
from helping import any_deed, do, grown, refused_with
from judging import any_atom, any_holder, kids, one, out_of, whole

SURE = ("sure", [])


def given(world, holder, needs=(), ends=(), paper=SURE):
    return layer_now(world, 0, (holder, list(needs), list(ends)), paper)


class WholeNeedTest(unittest.TestCase):

    def check(self, world, rows, day=0):
        for holder, atoms, how, year in rows:
            with self.subTest(holder, atoms=atoms):
                self.assertEqual(whole_stand(world, holder, atoms, []), how)
                self.assertEqual(whole_since(world, holder, atoms, [], day), year)

    def test_one_holder(self):
        world = grown(1800, ["arrive ann 20", "birth ann", "years 10", "comes war"])
        rows = [
            (one("ann"), [], "met", 1780), (one("ann.1"), [], "met", 1800), (one("ann.2"), [], "hangs", None),
            (one("ann.1"), [("comes", "war")], "met", 1810), (one("ann.1"), [("comes", "flood")], "hangs", None),
            (one("ann.1"), [("year", 1805), ("age", "ann", 28)], "met", 1808),
            (one("ann.2"), [("comes", "war")], "hangs", None),
        ]
        self.check(world, rows)
        for deed in ("years 1", "death ann", "years 1"):
            do(world, deed)
        self.check(world, [
            (one("ann.2"), [], "failed", 1811), (one("ann.2"), [("comes", "flood")], "failed", 1811),
            (one("ann.1"), [("age", "ann", 60)], "failed", 1811), (one("ann.1"), [("born", "ann.2")], "failed", 1811),
        ])
        world.death("ann.1")
        self.check(world, [(one("ann.2"), [("age", "ann.1", 20)], "failed", 1811)])
        self.check(world, [(one("ann.2"), [("age", "ann.1", 20)], "failed", 1890)], day=1890)
        self.check(world, [(one("ann.1"), [("comes", "war")], "met", 1890)], day=1890)

    def test_class(self):
        world = grown(1800, ["arrive ann 20", "birth ann", "years 10", "comes war", "years 4"])
        self.check(world, [(kids("ann", 5), [], "hangs", None), (kids("ann", 5), [("comes", "war")], "hangs", None)])
        world.death("ann")
        self.check(world, [
            (kids("ann", 5), [], "met", 1814), (kids("ann", 14), [("year", 1812)], "met", 1814),
            (kids("ann", 15), [], "hangs", None), (kids("ann", 5), [("comes", "flood")], "hangs", None),
            (kids("ann", 15), [("born", "ann.2")], "failed", 1814), (kids("ann.2", 5), [], "failed", 1814),
            (kids("ann.2", 5), [("comes", "flood")], "failed", 1814),
        ])
        do(world, "years 3")
        self.check(world, [(kids("ann", 15), [("comes", "war")], "met", 1815), (kids("ann", 17), [], "met", 1817)])
        world.death("ann.1")
        self.check(world, [(kids("ann", 20), [], "failed", 1817), (kids("ann", 20), [("year", 1900)], "failed", 1817)])

    def test_any_parts(self):
        for seed in range(25):
            chance = random.Random(seed)
            world = World(1800)
            world.arrive("ann", 20)
            for turn in range(40):
                any_deed(chance, world)
            for turn in range(20):
                holder = any_holder(chance, world)
                if holder is None:
                    continue
                atoms = [any_atom(chance, world) for number in range(chance.randint(0, 4))]
                out, day = out_of(world, holder), chance.choice([0, 1800, 1810, 1900])
                how = whole(world, holder, atoms, out)
                self.assertEqual(whole_stand(world, holder, atoms, out), how)
                parts = atoms + ([("born", holder[1])] if holder[0] == "one" else [])
                years = [(atom_stand(world, atom), atom_since(world, atom)) for atom in parts]
                if holder[0] == "kids":
                    years.append((whole(world, holder, [], out), class_since(world, *holder[1:], out, day)))
                years = [year for stands, year in years if stands == how]
                want = None
                if how != "hangs":
                    want = max([day] + years) if how == "met" else max(day, min(years))
                self.assertEqual(whole_since(world, holder, atoms, out, day), want)


class OpenTest(unittest.TestCase):

    def check(self, world, layer, opened, shut):
        self.assertIs(is_open(world, layer), opened)
        self.assertIs(is_shut(world, layer), shut)

    def test_needs_and_ends(self):
        world = grown(1800, ["arrive ann 20"])
        layer = given(world, one("ann.1"), [("year", 1803)], [("comes", "war"), ("dead", "ann")])
        self.check(world, layer, False, False)
        do(world, "years 5")
        self.check(world, layer, False, False)
        do(world, "birth ann")
        self.check(world, layer, True, False)
        do(world, "death ann.1")
        self.check(world, layer, True, False)
        do(world, "comes war")
        self.check(world, layer, False, True)

    def test_a_failed_need(self):
        world = grown(1800, ["arrive ann 20"])
        unborn, old = given(world, one("ann.1")), given(world, one("ann"), [("age", "ann", 30)])
        self.check(world, unborn, False, False)
        do(world, "death ann")
        self.check(world, unborn, False, True)
        self.check(world, old, False, True)
        self.check(world, given(world, kids("ann", 0)), False, True)

    def test_struck_and_dropped(self):
        world = grown(1800, ["arrive ann 20"])
        layer = given(world, one("ann"), paper=("late", []))
        self.check(world, layer, False, True)
        layer = given(world, one("ann"))
        self.check(world, layer, True, False)
        layer.dropped = True
        self.check(world, layer, False, True)

    def test_a_class_that_hangs_may_be_open(self):
        world = grown(1800, ["arrive ann 20", "birth ann"])
        layer = given(world, kids("ann", 3), [("year", 1802)])
        for year, opened in ((1801, False), (1802, False), (1803, True), (1804, True)):
            do(world, "years 1")
            self.assertEqual(world.year, year)
            self.check(world, layer, opened, False)
        self.assertEqual(layer_stand(world, layer), "hangs")
        do(world, "death ann.1")
        self.check(world, layer, True, False)
        # Left out are those who were dead on the day.
        late = given(world, kids("ann", 3))
        self.check(world, late, False, False)
        do(world, "death ann")
        self.check(world, layer, True, False)
        self.check(world, late, False, True)
        self.assertEqual((layer_since(world, layer), layer_since(world, late)), (1804, 1804))


class LedgerTest(unittest.TestCase):

    def test_first_ledgers(self):
        world = grown(1800, ["arrive ann 20", "birth ann", "birth ann", "death ann.1"])
        self.assertEqual(seat_names(world, given(world, one("ann.7.1"))), ["ann.7.1"])
        self.assertEqual(seat_ledger(given(world, one("ann.7.1")), "ann.7.1"), [("ann.7.1", 1, 1)])
        layer = given(world, kids("ann", 21))
        self.assertEqual(seat_names(world, layer), ["ann.2"])
        do(world, "birth ann")
        self.assertEqual(seat_names(world, layer), ["ann.2", "ann.3"])
        self.assertEqual([seat_ledger(layer, seat) for seat in ("ann.2", "ann.3")], [[("ann.2", 1, 1)], [("ann.3", 1, 1)]])
        self.assertEqual(seat_names(world, given(world, kids("ann.4", 0))), [])

    def test_sales(self):
        world = grown(1800, ["arrive ann 20", "arrive bob 20"])
        layer = given(world, one("ann"))
        move_share(layer, "ann", "ann", "bob", (1, 3))
        self.assertEqual(seat_ledger(layer, "ann"), [("ann", 2, 3), ("bob", 1, 3)])
        refused_with(self, Short, move_share, layer, "ann", "bob", "ann", (1, 2))
        self.assertEqual(seat_ledger(layer, "ann"), [("ann", 2, 3), ("bob", 1, 3)])
        self.assertEqual((is_only_owner(layer, "ann"), is_only_owner(layer, "bob")), (False, False))
        move_share(layer, "ann", "ann", "bob", (2, 3))
        self.assertEqual((is_only_owner(layer, "ann"), is_only_owner(layer, "bob")), (False, True))
        self.assertIs(is_only_owner(given(grown(1800, ["arrive ann 1", "birth ann"]), kids("ann", 0)), "ann.1"), False)

    def test_told_ledgers_that_are_changed(self):
        layer = given(grown(1800, ["arrive ann 20"]), one("ann"))
        for turn in range(2):
            seat_ledger(layer, "ann").clear()
            self.assertEqual(seat_ledger(layer, "ann"), [("ann", 1, 1)])
            move_share(layer, "ann", "ann", "ann", (1, 1))

    def test_deaths(self):
        world = grown(1800, ["arrive ann 20", "arrive bob 20", "birth ann", "birth ann", "birth ann", "death ann.1"])
        layer = given(world, kids("ann", 21))
        move_share(layer, "ann.2", "ann.2", "bob", (1, 4))
        self.assertEqual(held_seats(layer, "ann.2"), ["ann.2"])
        self.assertEqual(held_seats(layer, "bob"), ["ann.2"])
        for name in ("ann", "ann.1"):
            self.assertEqual(held_seats(layer, name), [])
        for name in ("ann.2", "ann.3"):
            do(world, f"death {name}")
            pass_on(layer, name, heirs(world.lives, name))
        self.assertEqual(seat_ledger(layer, "ann.2"), [("ann", 3, 4), ("bob", 1, 4)])
        self.assertEqual(seat_ledger(layer, "ann.3"), [("ann", 1, 1)])
        self.assertEqual(sorted(held_seats(layer, "ann")), ["ann.2", "ann.3"])
        self.assertEqual(held_seats(layer, "ann.3"), [])

    def test_a_name_that_begins_alike_has_no_seat(self):
        world = grown(1800, ["arrive ann 20", "birth ann", "birth ann.1", "arrive an 4"])
        layer = given(world, kids("ann", 21))
        for name in ("an", "ann", "ann.1.1"):
            self.assertEqual(held_seats(layer, name), [])
        self.assertEqual(held_seats(layer, "ann.1"), ["ann.1"])


class DeadlineTest(unittest.TestCase):

    def check(self, world, layer, term, limit, how):
        self.assertEqual(deadline_of(world, layer, term), limit)
        self.assertEqual(watched(world, layer, term), how)

    def test_none_while_one_lives(self):
        world = grown(1800, ["arrive ann 20", "arrive bob 20", "years 3"])
        layer = given(world, one("ann"), [("comes", "war")])
        self.check(world, layer, 2, None, "hangs")
        for deed in ("birth ann", "death ann", "years 40"):
            do(world, deed)
            self.check(world, layer, 2, None, "hangs")
        do(world, "death bob")
        for year in (1843, 1844, 1845):
            self.assertEqual(world.year, year)
            self.check(world, layer, 2, 1845, "hangs")
            do(world, "years 1")
        self.check(world, layer, 2, 1845, "over")
        do(world, "comes war")
        self.check(world, layer, 2, 1845, "over")

    def test_settled_in_time(self):
        world = grown(1800, ["arrive ann 20", "years 3"])
        layer = given(world, one("ann"), [("comes", "war")])
        for deed in ("death ann", "years 2", "comes war"):
            do(world, deed)
        self.check(world, layer, 2, 1805, "kept")
        self.check(world, layer, 1, 1804, "over")
        do(world, "years 9")
        self.check(world, layer, 2, 1805, "kept")

    def test_settled_while_one_lives(self):
        world = grown(1800, ["arrive ann 20"])
        self.check(world, given(world, one("ann")), 0, None, "kept")
        self.check(world, given(world, one("ann"), [("born", "ann.1.1"), ("year", 1)]), 0, None, "hangs")

    def test_nobody_lived(self):
        world = grown(1800, ["arrive ann 20", "years 5", "death ann", "years 7"])
        layer = given(world, kids("ann", 0))
        self.check(world, layer, 0, 1812, "kept")
        self.check(world, layer, 60, 1872, "kept")
        do(world, "arrive bob 3")
        self.check(world, layer, 0, 1812, "kept")

    def test_those_who_were_dead_or_unborn_are_no_lives(self):
        world = grown(1800, ["arrive ann 20", "arrive bob 20", "death bob", "years 5"])
        layer = given(world, one("ann"))
        for deed in ("birth ann", "arrive eve 80", "death ann", "years 9"):
            do(world, deed)
        self.check(world, layer, 3, 1808, "kept")

    def test_sure_layers_are_never_over(self):
        for seed in range(40):
            chance = random.Random(seed)
            world, layers = World(1800), []
            world.arrive("ann", 20)
            for turn in range(80):
                any_deed(chance, world)
                holder = any_holder(chance, world)
                if holder is None:
                    continue
                atoms = [any_atom(chance, world) for number in range(chance.randint(0, 2))]
                layers.append(given(world, holder, atoms, paper=judged(world, holder, atoms, 2)))
                for layer in layers:
                    if layer.paper[0] == "sure":
                        self.assertNotEqual(watched(world, layer, 2), "over")


if __name__ == "__main__":
    unittest.main()
