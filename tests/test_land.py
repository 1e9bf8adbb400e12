"""The layers of a land: numbers, the trail, who sits (points 12 and 13)."""

import unittest

from deadhand.land import Land
from deadhand.layers import move_share
from helping import do, grown
from judging import kids, one


def land_of(world, owner):
    land = Land(10)
    land.begin(world, owner)
    return land


class LandTest(unittest.TestCase):

    def give(self, world, land, above, holder, needs=(), ends=(), term=21):
        return land.give(world, above, (holder, list(needs), list(ends)), term)

    def test_the_rest(self):
        world = grown(1800, ["arrive ann 20"])
        land = land_of(world, "ann")
        self.assertEqual((land.trail(world), land.sitters(world)), ([0], [("ann", 1, 1)]))
        self.assertEqual((land.layers[0].above, land.layers[0].paper, land.layers[0].day), (-1, ("sure", []), 1800))
        self.assertEqual([land.has_layer(number) for number in (-1, 0, 1)], [False, True, False])

    def test_numbers_and_layers_above(self):
        world = grown(1800, ["arrive ann 20"])
        land = land_of(world, "ann")
        numbers = [self.give(world, land, above, one("ann")) for above in (0, 0, 1, 3, 4)]
        self.assertEqual(numbers, [1, 2, 3, 4, 5])
        self.assertEqual([land.many_above(number) for number in range(6)], [0, 1, 1, 2, 3, 4])

    def test_the_first_open_one_in_the_order_of_giving(self):
        world = grown(1800, ["arrive ann 20", "arrive bob 20", "arrive eve 20"])
        land = land_of(world, "ann")
        self.give(world, land, 0, one("bob"), [("year", 1810)], [("year", 1820)])
        self.give(world, land, 0, one("eve"), [("year", 1805)])
        self.assertEqual(land.trail(world), [0])
        for year, trail, name in ((1805, [0, 2], "eve"), (1810, [0, 1], "bob"), (1820, [0, 2], "eve")):
            do(world, f"years {year - world.year}")
            self.assertEqual((land.trail(world), land.sitters(world)), (trail, [(name, 1, 1)]))

    def test_a_layer_below_one_that_is_not_open_any_more(self):
        world = grown(1800, ["arrive ann 20", "arrive bob 20", "arrive eve 20"])
        land = land_of(world, "ann")
        self.give(world, land, 0, one("bob"), [], [("year", 1810)])
        self.give(world, land, 1, one("eve"), [("year", 1805)])
        self.assertEqual(land.trail(world), [0, 1])
        do(world, "years 5")
        self.assertEqual(land.trail(world), [0, 1, 2])
        do(world, "years 5")
        self.assertEqual(land.trail(world), [0])

    def test_late_layers_are_on_no_trail(self):
        world = grown(1800, ["arrive ann 20", "arrive bob 20"])
        land = land_of(world, "ann")
        self.give(world, land, 0, one("bob"), [("comes", "war")])
        self.give(world, land, 1, one("ann"))
        do(world, "comes war")
        self.assertEqual(land.layers[1].paper[0], "late")
        self.assertEqual(land.trail(world), [0])

    def test_the_sitters_of_a_class(self):
        world = grown(1800, ["arrive ann 20", "birth ann", "years 2", "birth ann", "years 1", "birth ann"])
        land = land_of(world, "ann")
        self.give(world, land, 0, kids("ann", 21))
        for year, names in ((1820, ["ann"]), (1821, ["ann.1"]), (1823, ["ann.1", "ann.2"])):
            do(world, f"years {year - world.year}")
            self.assertEqual(land.sitters(world), [(name, 1, len(names)) for name in names])
        do(world, "years 1")
        self.assertEqual(land.sitters(world), [("ann.1", 1, 3), ("ann.2", 1, 3), ("ann.3", 1, 3)])

    def test_a_twin_goes_its_own_way(self):
        world = grown(1800, ["arrive ann 20", "arrive bob 20"])
        land = land_of(world, "ann")
        self.give(world, land, 0, one("bob"))
        twin = land.twin()
        self.give(world, land, 1, one("ann"))
        move_share(land.layers[1], "bob", "bob", "ann", (1, 1))
        land.layers[0].dropped = True
        self.assertEqual((twin.trail(world), twin.sitters(world)), ([0, 1], [("bob", 1, 1)]))
        self.assertEqual((len(twin.layers), twin.layers[0].dropped), (2, False))
        self.assertEqual((land.trail(world), land.sitters(world)), ([0, 1, 2], [("ann", 1, 1)]))


if __name__ == "__main__":
    unittest.main()
