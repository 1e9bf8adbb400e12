"""Houses: orders, back, again, told and read (points 0.1, 0.2 and 26)."""

import copy
import random
import unittest

from deadhand.desk import House, read_house
from deadhand.errors import (
    Gone, LandError, Never, NoLand, NoLayer, NoPerson, NoSeat, NothingThere, NotWhole, NoText, OutOfBound, Short, Shut,
    Taken, TooDeep,
)
from deadhand.notes import order_text
from deadhand.realm import Realm
from drawing import Drawn
from helping import HUGE, refused_with
from realms import ModelRealm, rule, ruled, whole_realm

ORDERS = [
    "arrive ann 20", "arrive bob 30", "birth ann", "land hill ann 12", "years 5", "birth ann", "land dale bob 7",
    "gift hill 0 ann: to kids ann 10; to bob when comes war until year 1830; to ann.3 when dead bob", "comes flood",
    "sell hill 1 ann.1 ann.1 bob 1/3", "years 10", "gift dale 0 bob: to ann.1; to kids ann.1 30", "drop dale 1 ann.1",
    "birth ann.1", "death ann.1", "years 7", "death bob", "birth ann", "gift hill 3 ann.3: to ann until age ann 50",
    "years 60", "death ann",
]
ANSWERS = [None, None, "ann.1", None, None, "ann.2", None, [1, 2, 3], None, None, None, [1, 2], None, "ann.1.1", None, None,
           None, "ann.3", [4], None, None]


def built(orders=ORDERS, year=1800, term=21):
    house = House(year, term)
    for text in orders:
        house.order(text)
    return house


def whole_house(house):
    return (house.orders(), house.told(), whole_realm(house.realm))


class HouseCase(unittest.TestCase):

    def refused(self, house, kind, deed, *things):
        ahead = whole_house(house)
        refused_with(self, kind, deed, *things)
        self.assertEqual(whole_house(house), ahead)


class OrderTest(HouseCase):

    def test_a_new_house(self):
        for year, term in ((0, 0), (9999, 60), (1800, 21)):
            house = House(year, term)
            self.assertIs(type(house.realm), Realm)
            self.assertEqual((house.orders(), house.told()), ([], f"house {year} {term}"))
            self.assertEqual(whole_realm(house.realm), whole_realm(Realm(year, term)))
        for year, term in ((-1, 5), (10000, 5), (5, -1), (5, 61), (HUGE, 5)):
            refused_with(self, OutOfBound, House, year, term)

    def test_answers_and_states(self):
        house, realm = House(1800, 21), Realm(1800, 21)
        for many, (text, answer) in enumerate(zip(ORDERS, ANSWERS), start=1):
            self.assertEqual(house.order(text), answer)
            self.assertEqual(rule(realm, text), answer)
            self.assertEqual(house.orders(), ORDERS[:many])
            self.assertEqual(whole_realm(house.realm), whole_realm(realm))

    def test_each_refusal(self):
        house = built(ORDERS[:10])
        for text, kind in (
            ("", NoText), ("birth", NoText), ("birth crown", NoText), ("years 01", NoText), ("gift hill 0 ann: ", NoText),
            ("arrive zoe 121", OutOfBound), ("years 0", OutOfBound), ("years 61", OutOfBound), ("land moor ann 0", OutOfBound),
            ("sell hill 0 ann ann bob 0/5", OutOfBound), ("gift hill 0 ann: to kids ann 121", OutOfBound),
            ("arrive ann 5", Taken), ("comes flood", Taken), ("land hill ann 5", Taken), ("birth zoe", NoPerson),
            ("gift hill 0 ann: to zoe", NoPerson), ("gift moor 0 ann: to bob", NoLand), ("drop moor 0 ann", NoLand),
            ("gift hill 9 ann: to bob", NoLayer), ("sell hill 9 ann ann bob 1/2", NoLayer), ("drop hill 9 ann", NoLayer),
            ("sell hill 0 bob ann bob 1/2", NoSeat), ("sell hill 0 ann bob ann 1/2", Short), ("drop hill 0 ann", NotWhole),
            ("gift hill 1 ann.1: to bob", NotWhole), ("drop hill 2 bob", Shut), ("gift hill 2 bob: to ann", Shut),
            ("gift hill 0 ann: to kids ann.1.1.1.1.1 5", TooDeep),
        ):
            with self.subTest(text):
                self.refused(house, kind, house.order, text)
        house.order("death bob")
        self.refused(house, Gone, house.order, "birth bob")
        self.refused(house, Gone, house.order, "gift hill 0 ann: to bob")
        self.refused(house, Never, house.order, "gift hill 0 ann: to bob.1")

    def test_told_lists_that_are_changed(self):
        house = built()
        ahead = copy.deepcopy(whole_house(house))
        house.orders().clear()
        self.assertEqual(whole_house(house), ahead)
        house.order("birth ann.2")
        house.back()
        self.assertEqual(whole_house(house), ahead)
        numbers = house.order("land moor ann.2 5"), house.order("gift moor 0 ann.2: to ann.3")
        numbers[1].clear()
        self.assertEqual(house.realm.how_many("moor"), 2)


class BackTest(HouseCase):

    def test_nothing_there(self):
        house = House(1800, 21)
        self.refused(house, NothingThere, house.back)
        self.refused(house, NothingThere, house.again)
        house.order("arrive ann 20")
        self.refused(house, NothingThere, house.again)
        self.assertEqual(house.back(), "arrive ann 20")
        self.refused(house, NothingThere, house.back)
        self.assertEqual(house.again(), "arrive ann 20")
        self.refused(house, NothingThere, house.again)

    def test_down_to_none_and_up_to_the_last(self):
        states = [whole_realm(ruled(1800, 21, ORDERS[:many])) for many in range(len(ORDERS) + 1)]
        house = built()
        for turn in range(2):
            for many in range(len(ORDERS) - 1, -1, -1):
                self.assertEqual(house.back(), ORDERS[many])
                self.assertEqual(house.orders(), ORDERS[:many])
                self.assertEqual(whole_realm(house.realm), states[many])
            self.refused(house, NothingThere, house.back)
            for many in range(len(ORDERS)):
                self.assertEqual(house.again(), ORDERS[many])
                self.assertEqual(house.orders(), ORDERS[:many + 1])
                self.assertEqual(whole_realm(house.realm), states[many + 1])
            self.refused(house, NothingThere, house.again)

    def test_a_new_order_forgets(self):
        house = built()
        for turn in range(3):
            house.back()
        house.order("comes war")
        self.refused(house, NothingThere, house.again)
        self.assertEqual(house.orders(), ORDERS[:-3] + ["comes war"])
        self.assertEqual(whole_realm(house.realm), whole_realm(ruled(1800, 21, ORDERS[:-3] + ["comes war"])))
        self.assertEqual(house.back(), "comes war")
        self.assertEqual(house.again(), "comes war")

    def test_a_refused_order_does_not(self):
        house = built()
        for turn in range(3):
            house.back()
        for text in ("comes flood", "no order", "birth zoe", "years 99"):
            with self.assertRaises(LandError):
                house.order(text)
        self.assertEqual([house.again() for turn in range(3)], ORDERS[-3:])
        self.assertEqual(whole_house(house), whole_house(built()))

    def test_the_same_order_after_another_past(self):
        house = built(["arrive ann 20", "birth ann"])
        house.back()
        house.back()
        house.order("arrive ann 40")
        self.assertEqual(house.order("birth ann"), "ann.1")
        self.assertEqual(house.realm.world.age("ann"), 40)

    def test_any_way_to_and_fro(self):
        for seed in range(6):
            chance = random.Random(seed)
            house, done, undone = House(1800, 21), [], []
            texts = ORDERS + ["birth ann", "years 1", "birth ann.2", "comes war", "years 3", "birth ann"] * 5
            for turn in range(150):
                kind = chance.choice(["order", "order", "back", "back", "again"])
                if kind == "back" and done:
                    undone.append(done.pop())
                    self.assertEqual(house.back(), undone[-1])
                elif kind == "again" and undone:
                    done.append(undone.pop())
                    self.assertEqual(house.again(), done[-1])
                else:
                    text = texts[len(done)] if chance.random() < 0.9 and len(done) < len(texts) else "years 2"
                    try:
                        house.order(text)
                    except LandError:
                        pass
                    else:
                        done, undone = done + [text], []
                self.assertEqual(house.orders(), done)
                if turn % 5 == 0:
                    self.assertEqual(whole_realm(house.realm), whole_realm(ruled(1800, 21, done)))


class ToldTest(HouseCase):

    def test_told_and_read(self):
        for many in range(len(ORDERS) + 1):
            house = built(ORDERS[:many])
            text = house.told()
            self.assertEqual(text, "\n".join(["house 1800 21"] + ORDERS[:many]))
            self.assertEqual(whole_house(read_house(text)), whole_house(house))

    def test_nothing_is_taken_back_in_what_is_read(self):
        house = built()
        house.back()
        other = read_house(house.told())
        self.assertEqual(whole_house(other), whole_house(house))
        self.refused(other, NothingThere, other.again)
        self.assertEqual(house.again(), ORDERS[-1])
        for text in ORDERS[-2::-1]:
            self.assertEqual(other.back(), text)

    def test_bounds_of_the_first_row(self):
        for text in ("house 0 0", "house 9999 60", "house 1800 0"):
            self.assertEqual(read_house(text).told(), text)
        for text in ("house 1800 61", "house 0 9999", "house 1800 61\narrive ann 5"):
            refused_with(self, OutOfBound, read_house, text)

    def test_a_first_row_that_is_not_so(self):
        for text in (
            "", "\n", "house", "house 1800", "house 1800 21 5", "House 1800 21", " house 1800 21", "house 1800 21 ",
            "house  1800 21", "house 01800 21", "house 10000 21", "house -1 21", "house +5 21", "house 1800 -1",
            "house 1800 021", "house 1800 10000", "house a b", "1800 21", "arrive ann 20", "\nhouse 1800 21", "home 1800 21",
            "house 1800 21;", "house 1800\n21",
        ):
            with self.subTest(text):
                refused_with(self, NoText, read_house, text)
                with self.assertRaises(NoText):
                    read_house(text + "\n" + "\n".join(ORDERS))

    def test_rows_that_are_no_orders(self):
        for bad in ("", " ", "birth", "arrive ann", "house 1800 21", "back", "again", "gift hill 0 ann:", "comes crown",
                    "birth ann "):
            for at in (0, 3, len(ORDERS)):
                rows = ["house 1800 21"] + ORDERS[:at] + [bad] + ORDERS[at:]
                with self.subTest(bad, at=at):
                    refused_with(self, NoText, read_house, "\n".join(rows))
        refused_with(self, NoText, read_house, built().told() + "\n")
        refused_with(self, NoText, read_house, built().told().replace("\n", "\n\n", 1))

    def test_orders_that_are_refused_in_their_turn(self):
        for at, text, kind in (
            (0, "birth ann", NoPerson), (4, "arrive ann 3", Taken), (4, "land hill bob 3", Taken), (9, "comes flood", Taken),
            (15, "birth ann.1", Gone), (4, "years 61", OutOfBound), (4, "gift dale 0 ann: to bob", NoLand),
            (9, "gift hill 2 bob: to ann", Shut), (9, "sell hill 0 ann bob ann 1/2", Short), (9, "drop hill 7 ann", NoLayer),
            (9, "sell hill 0 bob bob ann 1/2", NoSeat), (9, "drop hill 0 ann", NotWhole), (17, "gift dale 0 bob: to bob.1", Gone),
        ):
            rows = ["house 1800 21"] + ORDERS[:at] + [text] + ORDERS[at:]
            with self.subTest(text):
                with self.assertRaises(LandError) as caught:
                    read_house("\n".join(rows))
                self.assertIn(type(caught.exception), (kind, Never, NotWhole) if kind is Gone else (kind,))

    def test_drawn_houses(self):
        for seed in range(25):
            house, model = House(1800, 7), ModelRealm(1800, 7)
            drawn = Drawn(seed, model)
            texts = ["arrive ann 20", "land hill ann 7"]
            for text in texts:
                house.order(text)
            model.arrive("ann", 20)
            model.land("hill", "ann", 7)
            for turn in range(40):
                deed = drawn.deed()
                text = order_text(deed)
                faults = model.faults(*deed)
                try:
                    house.order(text)
                except LandError as refusal:
                    self.assertIn(type(refusal), faults | {NoText})
                    continue
                getattr(model, deed[0])(*deed[1:], *([house.realm.world] if deed[0] == "gift" else []))
                texts.append(text)
            self.assertEqual(house.orders(), texts)
            self.assertEqual(whole_realm(house.realm)[1:], model.told())
            self.assertEqual(whole_house(read_house(house.told())), whole_house(house))


if __name__ == "__main__":
    unittest.main()
