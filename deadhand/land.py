"""A land: its layers, and which of them sits."""

from deadhand.layers import full_seats, is_open, layer_now, seat_ledger
from deadhand.shares import mixed
from deadhand.terms import SURE, judged


class Land:
    """Layers by their numbers, the rest first, and a yearly rent."""

    def __init__(self, rent):
        """A land without any layer."""
        self.rent = rent
        self.layers = []

    def twin(self):
        """A land of its own that is as this one is now."""
        other = Land(self.rent)
        other.layers = [layer.twin() for layer in self.layers]
        return other

    def begin(self, world, owner):
        """The rest comes, with the first owner as its holder."""
        self.layers.append(layer_now(world, -1, (("one", owner), [], []), (SURE, [])))

    def give(self, world, above, row, term):
        """A row is given out of a layer; its number is told."""
        number = len(self.layers)
        self.layers.append(layer_now(world, above, row, judged(world, row[0], row[1], term)))
        self.layers[above].below.append(number)
        return number

    def has_layer(self, number):
        """Whether a layer has that number."""
        return 0 <= number < len(self.layers)

    def many_above(self, number):
        """How many layers a layer has above it."""
        many = 0
        above = self.layers[number].above
        while above >= 0:
            many += 1
            above = self.layers[above].above
        return many

    def first_open(self, world, number):
        """The first open layer of those given out of one, None where there is none."""
        for below in self.layers[number].below:
            if is_open(world, self.layers[below]):
                return below
        return None

    def trail(self, world):
        """The numbers of the layers from the rest down to the one that sits."""
        numbers = []
        number = 0
        while number is not None:
            numbers.append(number)
            number = self.first_open(world, number)
        return numbers

    def seated(self, world):
        """The number of the layer that sits, and a tuple of its seats."""
        number = self.trail(world)[-1]
        return (number, tuple(full_seats(world, self.layers[number])))

    def mixed_seats(self, number, seats):
        """The ledgers of some seats of a layer, mixed."""
        return mixed([seat_ledger(self.layers[number], seat) for seat in seats])

    def sitters(self, world):
        """The ledger of those who sit."""
        number, seats = self.seated(world)
        return self.mixed_seats(number, seats)
