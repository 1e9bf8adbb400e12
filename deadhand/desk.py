"""The house: orders that are done in a realm, taken back and done again."""

from deadhand.errors import NoText, NothingThere
from deadhand.notes import order_text, read_number, read_order
from deadhand.realm import Realm


def do_deed(realm, deed):
    """Do a deed in a realm; what it answers is told."""
    kind, thing = deed[0], deed[1]
    if kind == "arrive":
        return realm.arrive(thing, deed[2])
    if kind == "birth":
        return realm.birth(thing)
    if kind == "death":
        return realm.death(thing)
    if kind == "comes":
        return realm.comes(thing)
    if kind == "years":
        return realm.years(thing)
    if kind == "land":
        return realm.land(thing, deed[2], deed[3])
    if kind == "drop":
        return realm.drop(thing, deed[2], deed[3])
    if kind == "sell":
        return realm.sell(thing, deed[2], deed[3], deed[4], deed[5], deed[6], deed[7])
    return realm.gift(thing, deed[2], deed[3], deed[4])


class House:
    """A realm with the orders that were done in it, and those that were taken back."""

    def __init__(self, year, term):
        """A house without any order."""
        self.realm = Realm(year, term)
        self.head = f"house {year} {term}"
        self.deeds = []
        self.undone = []
        # Realms as they were behind so many orders, from which one is built anew.
        self.marks = [(0, self.realm.twin())]

    def order(self, text):
        """Do an order; what the deed answers is told."""
        deed = read_order(text)
        answer = do_deed(self.realm, deed)
        self.deeds.append(deed)
        self.undone = []
        return answer

    def orders(self):
        """The orders that stand, as texts."""
        return [order_text(deed) for deed in self.deeds]

    def rebuilt(self, many):
        """The realm as it was behind so many orders."""
        while self.marks[-1][0] > many:
            self.marks.pop()
        begun, mark = self.marks[-1]
        realm = mark.twin()
        # With a mark half way, the next orders are taken back by ever shorter ways.
        half = (begun + many) // 2
        for at in range(begun, many):
            if at == half and at > begun:
                self.marks.append((at, realm.twin()))
            do_deed(realm, self.deeds[at])
        return realm

    def back(self):
        """Take the last order back; its text is told."""
        if not self.deeds:
            raise NothingThere("no order stands")
        self.realm = self.rebuilt(len(self.deeds) - 1)
        deed = self.deeds.pop()
        self.undone.append(deed)
        return order_text(deed)

    def again(self):
        """Do the order again that was taken back last; its text is told."""
        if not self.undone:
            raise NothingThere("no order was taken back")
        deed = self.undone.pop()
        do_deed(self.realm, deed)
        self.deeds.append(deed)
        return order_text(deed)

    def told(self):
        """The house as a text."""
        return "\n".join([self.head] + self.orders())


def read_house(text):
    """The house that a text tells."""
    rows = text.split("\n")
    head = rows[0].split(" ")
    if len(head) != 3 or head[0] != "house":
        raise NoText("the first row tells no house")
    house = House(read_number(head[1]), read_number(head[2]))
    for row in rows[1:]:
        house.order(row)
    return house
