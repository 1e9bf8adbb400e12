"""The sizes up to which all is promised (point 0.3), with a bound on the time that they take."""

import time
import unittest

from deadhand.desk import House, read_house
from realms import whole_realm

# Far more than what is needed, so that only a wrong way of reckoning is found, and no busy machine.
LIMIT = 30


def word_of(number):
    return "l" + "abcdefghij"[number // 10] + "abcdefghij"[number % 10]


class FarSizesTest(unittest.TestCase):

    def setUp(self):
        self.begun = time.process_time()

    def tearDown(self):
        self.assertLess(time.process_time() - self.begun, LIMIT)

    def to_and_fro(self, house, many):
        """Take many orders back, do them again, and want all as it was."""
        ahead, texts = whole_realm(house.realm), house.orders()
        self.assertEqual([house.back() for turn in range(many)], texts[-1:-many - 1:-1])
        self.assertEqual(house.orders(), texts[:-many])
        self.assertEqual([house.again() for turn in range(many)], texts[-many:])
        self.assertEqual(whole_realm(house.realm), ahead)

    def test_ninety_nine_children(self):
        house = House(1800, 60)
        house.order("arrive ann 20")
        for number in range(40):
            house.order(f"land {word_of(number)} ann {number + 1}")
            house.order(f"gift {word_of(number)} 0 ann: to kids ann 21; to ann.99 when age ann.50 3")
        for number in range(1, 100):
            self.assertEqual(house.order("birth ann"), f"ann.{number}")
            if number % 3 == 0:
                house.order("years 1")
        house.order("years 60")
        self.assertEqual(house.realm.sitters("laa"), sorted((f"ann.{number}", 1, 99) for number in range(1, 100)))
        for number in range(1, 99):
            house.order(f"death ann.{number}")
        house.order("death ann")
        house.order("years 60")
        self.assertEqual(house.realm.sitters("laa"), [("ann.99", 1, 1)])
        paid = sum(house.realm.purse(name)[0] / house.realm.purse(name)[1] for name in house.realm.world.lives.names())
        self.assertAlmostEqual(paid, 153 * 820)
        self.to_and_fro(house, 100)

    def test_three_hundred_layers(self):
        house = House(1800, 21)
        for text in ("arrive ann 20", "arrive bob 20", "land hill ann 7"):
            house.order(text)
        for number in range(49):
            house.order("gift hill 0 ann: to bob when year 1950 and age ann 99; to ann.1 when comes war; to bob until year "
                        f"{1801 + number}; to kids ann 21 when dead bob; to ann.2; to bob when dead ann until dead bob")
        self.assertEqual(house.realm.how_many("hill"), 295)
        house.order("years 60")
        house.order("birth ann")
        house.order("death bob")
        house.order("years 60")
        self.assertEqual(house.realm.trail("hill"), [0, 4])
        self.to_and_fro(house, 50)
        self.assertEqual(read_house(house.told()).told(), house.told())

    def test_two_thousand_people(self):
        house = House(1800, 21)
        house.order("arrive ann 20")
        for number in range(20):
            house.order("birth ann")
        for number in range(1, 21):
            for turn in range(98):
                house.order(f"birth ann.{number}")
        house.order("land hill ann 100")
        for number in range(1, 21):
            house.order(f"gift hill 0 ann: to kids ann.{number} 30; to ann.{number}.99.1; to ann.{number} when dead ann")
            house.order(f"gift hill 0 ann: to ann.{number}.99 when age ann.{number}.5 60")
        for number in range(1, 21):
            for child in range(1, 40, 5):
                house.order(f"death ann.{number}.{child}")
            house.order(f"death ann.{number}")
        house.order("death ann")
        house.order("years 60")
        self.assertEqual(len(house.realm.world.lives.names()), 1981)
        self.assertEqual(len(house.realm.owners("hill", 0)[0][1]), 1800)
        self.assertEqual(len(house.realm.paper_of("hill", 2)[1]), 1981 + 1 + 1)
        self.to_and_fro(house, 100)
        self.assertEqual(whole_realm(read_house(house.told()).realm), whole_realm(house.realm))

    def test_a_long_clock(self):
        house = House(9999, 60)
        house.order("arrive ann 120")
        house.order("land hill ann 1000")
        for turn in range(333):
            house.order("years 60")
        self.assertEqual((house.realm.world.year, house.realm.purse("ann")), (29979, (19980000, 1)))
        self.assertEqual(house.order("birth ann"), "ann.1")
        house.order("gift hill 0 ann: to kids ann 60; to kids ann 61")
        self.assertEqual([house.realm.paper_of("hill", number)[0] for number in (1, 2)], ["sure", "late"])


if __name__ == "__main__":
    unittest.main()
