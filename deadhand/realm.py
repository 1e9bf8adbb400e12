"""The realm: a world, its lands, and the deeds on them."""

from deadhand.errors import NoLand, NoLayer, NoSeat, NotWhole, Shut, Taken, TooDeep
from deadhand.gifts import want_rows, want_written
from deadhand.heirs import heirs
from deadhand.land import Land
from deadhand.layers import (
    deadline_of, held_seats, is_only_owner, is_shut, layer_since, layer_stand, move_share, pass_on, seat_ledger,
    seat_names, struck, watched,
)
from deadhand.lives import want_word
from deadhand.shares import NOUGHT, plus, times
from deadhand.world import MOST_YEARS, World, want_between

LONGEST_TERM = 60
HIGHEST_RENT = 1000
MOST_PARTS = 100
MOST_ABOVE = 4


class Realm:
    """A world with its lands and purses, and the term of its layers."""

    def __init__(self, year, term):
        """A realm without anybody and any land."""
        want_between(term, 0, LONGEST_TERM)
        self.world = World(year)
        self.term = term
        self.lands = {}
        self.purses = {}

    def twin(self):
        """A realm of its own that is as this one is now."""
        other = Realm(0, self.term)
        other.world = self.world.twin()
        other.lands = {word: self.lands[word].twin() for word in self.lands}
        other.purses = dict(self.purses)
        return other

    def find_land(self, word):
        """The land of a word."""
        if word not in self.lands:
            raise NoLand("no land has this word")
        return self.lands[word]

    def find_layer(self, word, number):
        """The layer of a land with a number."""
        land = self.find_land(word)
        if not land.has_layer(number):
            raise NoLayer("no layer of the land has this number")
        return land.layers[number]

    def want_not_shut(self, layer):
        """Refuse a layer that is shut."""
        if is_shut(self.world, layer):
            raise Shut("the layer is shut")

    def want_only_owner(self, layer, name):
        """Refuse a layer that is shut, and one who doesn't own the whole of it alone."""
        self.world.lives.want_alive(name)
        self.want_not_shut(layer)
        if not is_only_owner(layer, name):
            raise NotWhole("one is not the only owner of the layer")

    def arrive(self, word, age):
        """One without a parent comes into the book."""
        self.world.arrive(word, age)

    def birth(self, name):
        """The next child of one is born; its name is told."""
        return self.world.birth(name)

    def death(self, name):
        """One dies, and leaves all to the heirs."""
        self.world.death(name)
        held = [layer for land in self.lands.values() for layer in land.layers if held_seats(layer, name)]
        # Most have nothing, and to look for heirs may take long.
        if held:
            takers = heirs(self.world.lives, name)
            for layer in held:
                pass_on(layer, name, takers)

    def comes(self, word):
        """A happening comes."""
        self.world.comes(word)

    def pay(self, rents, ledger):
        """Those of a ledger have some rents by their shares."""
        for name, num, den in ledger:
            self.purses[name] = plus(self.purse(name), times((rents, 1), (num, den)))

    def years(self, many):
        """So many years pass, each with its rents."""
        want_between(many, 1, MOST_YEARS)
        sat = {}
        for year in range(many):
            for word in self.lands:
                key = (word,) + self.lands[word].seated(self.world)
                sat[key] = sat.get(key, 0) + 1
            self.world.pass_years(1)
        # No ledger changes while years pass, so that the same seats are paid for all their years at once.
        for key in sat:
            word, number, seats = key
            land = self.lands[word]
            self.pay(land.rent * sat[key], land.mixed_seats(number, seats))

    def land(self, word, owner, rent):
        """A land comes with its first owner."""
        want_word(word)
        if word in self.lands:
            raise Taken("a land has this word already")
        self.world.lives.want_alive(owner)
        want_between(rent, 1, HIGHEST_RENT)
        new = Land(rent)
        new.begin(self.world, owner)
        self.lands[word] = new

    def gift(self, word, number, giver, rows):
        """Rows are given out of a layer; their numbers are told."""
        want_written(rows)
        layer = self.find_layer(word, number)
        want_rows(self.world, rows)
        self.want_only_owner(layer, giver)
        land = self.lands[word]
        if land.many_above(number) >= MOST_ABOVE:
            raise TooDeep("too many layers stand above this one")
        return [land.give(self.world, number, row, self.term) for row in rows]

    def sell(self, word, number, seat, seller, buyer, num, den):
        """A part of a whole seat goes from a seller to a buyer."""
        layer = self.find_layer(word, number)
        if seat not in seat_names(self.world, layer):
            raise NoSeat("the layer has no such seat")
        self.want_not_shut(layer)
        want_between(den, 1, MOST_PARTS)
        want_between(num, 1, den)
        self.world.lives.want_alive(seller)
        self.world.lives.want_alive(buyer)
        move_share(layer, seat, seller, buyer, (num, den))

    def drop(self, word, number, owner):
        """A layer is given up by its only owner."""
        layer = self.find_layer(word, number)
        if number == 0:
            raise NotWhole("the rest is not dropped")
        self.want_only_owner(layer, owner)
        layer.dropped = True

    def purse(self, name):
        """All that a name had of rents."""
        return self.purses.get(name, NOUGHT)

    def how_many(self, word):
        """How many layers a land has, the rest included."""
        return len(self.find_land(word).layers)

    def trail(self, word):
        """The numbers of the layers from the rest down to the one that sits."""
        return self.find_land(word).trail(self.world)

    def sitting(self, word):
        """The number of the layer that sits."""
        return self.trail(word)[-1]

    def sitters(self, word):
        """The ledger of those who sit."""
        return self.find_land(word).sitters(self.world)

    def stand(self, word, number):
        """How the whole need of a layer stands."""
        return layer_stand(self.world, self.find_layer(word, number))

    def since(self, word, number):
        """The year in which the whole need of a layer was settled, None while it hangs."""
        return layer_since(self.world, self.find_layer(word, number))

    def paper_of(self, word, number):
        """The paper of a layer, as it was told on the day of its gift."""
        kind, things = self.find_layer(word, number).paper
        return (kind, list(things))

    def owners(self, word, number):
        """The seats of a layer with their ledgers."""
        layer = self.find_layer(word, number)
        return [(seat, seat_ledger(layer, seat)) for seat in seat_names(self.world, layer)]

    def shown(self, word, number):
        """What a layer was given out of, its row, its day, and whether it is struck and dropped."""
        layer = self.find_layer(word, number)
        row = (layer.above, layer.holder, list(layer.needs), list(layer.ends))
        return row + (layer.day, struck(layer), layer.dropped)

    def deadline(self, word, number):
        """The year by which a layer should be settled, None while one of its lives lives."""
        return deadline_of(self.world, self.find_layer(word, number), self.term)

    def watch(self, word, number):
        """Whether a layer is kept, over or hangs."""
        return watched(self.world, self.find_layer(word, number), self.term)
