"""What the tests of realms and houses need: orders that are done, all that can be asked, and a plain model."""

from fractions import Fraction

from deadhand.errors import (
    Gone, Never, NoLand, NoLayer, NoPerson, NoSeat, NotWhole, NoText, OutOfBound, Short, Shut, Taken, TooDeep,
)
from deadhand.lives import good_word, parts
from deadhand.notes import read_order
from deadhand.realm import Realm
from deadhand.terms import judged
from helping import Model, refused_with, whole_world
from judging import one

ODD_TEXTS = ["crown", "kids", "", "nobody", "hill", "ann.", "\n", "~ "]


def row(holder, needs=(), ends=()):
    return (holder, list(needs), list(ends))


def rule(realm, text):
    """Do an order that is told as a text in a realm."""
    kind, *things = read_order(text)
    return getattr(realm, kind)(*things)


def ruled(year, term, texts):
    """A realm in which orders were done."""
    realm = Realm(year, term)
    for text in texts:
        rule(realm, text)
    return realm


def whole_layer(realm, word, number):
    """All that a realm tells of a layer."""
    asked = (realm.stand, realm.since, realm.paper_of, realm.owners, realm.shown, realm.deadline, realm.watch)
    return [ask(word, number) for ask in asked]


def whole_land(realm, word):
    """All that a realm tells of a land."""
    asked = (realm.how_many, realm.trail, realm.sitting, realm.sitters)
    layers = [whole_layer(realm, word, number) for number in range(realm.how_many(word))]
    return [ask(word) for ask in asked] + layers


def whole_realm(realm):
    """All that a realm tells."""
    names = realm.world.lives.names() + ODD_TEXTS
    purses = {name: realm.purse(name) for name in names}
    return (whole_world(realm.world), {word: whole_land(realm, word) for word in realm.lands}, purses)


def told_share(share):
    return (share.numerator, share.denominator)


def told_ledger(shares):
    return [(name, *told_share(shares[name])) for name in sorted(shares) if shares[name]]


class Layer:
    """A layer of the model: its row, its day and lives, and the shares of each seat."""

    def __init__(self, above, given, day, lives, out, paper):
        self.above, (self.holder, self.needs, self.ends) = above, given
        self.day, self.lives, self.out, self.paper = day, lives, out, paper
        self.dropped = False
        self.seats = {}


class ModelRealm:
    """A realm as the document's words tell it, without any haste."""

    def __init__(self, year, term):
        self.year, self.term = year, term
        self.book = Model()
        self.came, self.rents, self.lands, self.purses = {}, {}, {}, {}

    # People

    def alive(self, name):
        found = self.book.row(name)
        return bool(found) and found[2] is None

    def age(self, name):
        found = self.book.row(name)
        return (self.year if found[2] is None else found[2]) - found[1]

    def line(self, name):
        if self.alive(name):
            return {name: Fraction(1)}
        stems = [stem for stem in map(self.line, self.book.children(name)) if stem]
        shares = {}
        for stem in stems:
            for taker, share in stem.items():
                shares[taker] = shares.get(taker, 0) + share / len(stems)
        return shares

    def heirs(self, name):
        while name:
            if self.line(name):
                return self.line(name)
            name = name.rpartition(".")[0]
        return {"crown": Fraction(1)}

    def never(self, name):
        return not self.book.row(name) and not self.alive(self.book.nearest(name))

    # Needs

    def settled(self, atom):
        """How a need stands, and since when."""
        kind, thing = atom[0], atom[1]
        if kind == "year":
            return ("met", thing) if self.year >= thing else ("hangs", None)
        if kind == "comes":
            return ("met", self.came[thing]) if thing in self.came else ("hangs", None)
        if not self.book.row(thing):
            died = self.book.row(self.book.nearest(thing))[2]
            return ("hangs", None) if died is None else ("failed", died)
        name, born, died = self.book.row(thing)
        if kind == "born":
            return ("met", born)
        if kind == "dead":
            return ("hangs", None) if died is None else ("met", died)
        if self.age(name) >= atom[2]:
            return ("met", born + atom[2])
        return ("hangs", None) if died is None else ("failed", died)

    def class_settled(self, layer):
        kind, name, least = layer.holder
        members = [child for child in self.book.children(name) if child not in layer.out]
        fates = [self.settled(("age", child, least)) for child in members]
        nearest = self.book.nearest(name)
        if self.alive(nearest) or ("hangs", None) in fates:
            return ("hangs", None)
        year = max([layer.day, self.book.row(nearest)[2]] + [fate[1] for fate in fates])
        return ("met" if "met" in [fate[0] for fate in fates] else "failed", year)

    def whole(self, layer):
        fates = [self.settled(atom) for atom in layer.needs]
        fates.append(self.class_settled(layer) if layer.holder[0] == "kids" else self.settled(("born", layer.holder[1])))
        failed = [year for how, year in fates if how == "failed"]
        if failed:
            return ("failed", max(layer.day, min(failed)))
        if ("hangs", None) in fates:
            return ("hangs", None)
        return ("met", max([layer.day] + [year for how, year in fates]))

    # Layers

    def is_over(self, layer):
        return "met" in [self.settled(end)[0] for end in layer.ends]

    def is_shut(self, layer):
        return layer.paper[0] == "late" or layer.dropped or self.is_over(layer) or self.whole(layer)[0] == "failed"

    def full_seats(self, layer):
        if layer.holder[0] == "one":
            return list(layer.seats) if self.book.row(layer.holder[1]) else []
        return [seat for seat in layer.seats if self.age(seat) >= layer.holder[2]]

    def is_open(self, layer):
        good = layer.paper[0] == "sure" and not layer.dropped and not self.is_over(layer)
        return good and all(self.settled(need)[0] == "met" for need in layer.needs) and self.full_seats(layer) != []

    def trail(self, word):
        layers, numbers = self.lands[word], [0]
        while True:
            below = [at for at, layer in enumerate(layers) if layer.above == numbers[-1] and self.is_open(layer)]
            if not below:
                return numbers
            numbers.append(below[0])

    def sitters(self, word):
        layer = self.lands[word][self.trail(word)[-1]]
        seats, shares = self.full_seats(layer), {}
        for seat in seats:
            for name, share in layer.seats[seat].items():
                shares[name] = shares.get(name, 0) + share / len(seats)
        return shares

    def deadline(self, layer):
        died = [self.book.row(name)[2] for name in layer.lives]
        return None if None in died else max([layer.day] + died) + self.term

    def watch(self, layer):
        year, limit = self.whole(layer)[1], self.deadline(layer)
        if year is not None:
            return "kept" if limit is None or year <= limit else "over"
        return "over" if limit is not None and self.year > limit else "hangs"

    def told_layer(self, layer):
        owners = [(seat, told_ledger(layer.seats[seat])) for seat in layer.seats]
        shown = (layer.above, layer.holder, layer.needs, layer.ends, layer.day, layer.paper[0] == "late", layer.dropped)
        return [*self.whole(layer), layer.paper, owners, shown, self.deadline(layer), self.watch(layer)]

    def told_land(self, word):
        trail, layers = self.trail(word), self.lands[word]
        told = [len(layers), trail, trail[-1], told_ledger(self.sitters(word))]
        return told + [self.told_layer(layer) for layer in layers]

    def told(self):
        names = [found[0] for found in self.book.rows] + ODD_TEXTS
        purses = {name: told_share(Fraction(self.purses.get(name, 0))) for name in names}
        return ({word: self.told_land(word) for word in self.lands}, purses)

    # What stands against a deed: the refusals of which any one may be told

    def name_faults(self, name):
        try:
            word = parts(name)[0]
        except NoText:
            return {NoText}
        return set() if self.book.row(word) else {NoPerson}

    def atom_faults(self, atom):
        if atom[0] == "comes":
            return set() if good_word(atom[1]) else {NoText}
        if atom[0] == "year":
            return set() if 0 <= atom[1] <= 9999 else {OutOfBound}
        faults = self.name_faults(atom[1])
        return faults | ({OutOfBound} if atom[0] == "age" and not 0 <= atom[2] <= 120 else set())

    def holder_faults(self, holder):
        name = holder[1]
        faults = self.name_faults(name)
        if not faults and self.never(name):
            faults.add(Never)
        if not faults and holder[0] == "one" and self.book.row(name) and not self.alive(name):
            faults.add(Gone)
        if NoText not in faults and holder[0] == "kids" and name.count(".") == 5:
            faults.add(TooDeep)
        return faults | ({OutOfBound} if holder[0] == "kids" and not 0 <= holder[2] <= 120 else set())

    def row_faults(self, given):
        holder, needs, ends = given
        faults = self.holder_faults(holder)
        for atom in needs + ends:
            faults |= self.atom_faults(atom)
        return faults | ({OutOfBound} if max(len(needs), len(ends)) > 6 else set())

    def alive_faults(self, name):
        if not self.book.row(name):
            return {NoPerson}
        return set() if self.alive(name) else {Gone}

    def place_faults(self, word, number):
        if word not in self.lands:
            return {NoLand}
        return set() if number in range(len(self.lands[word])) else {NoLayer}

    def owner_faults(self, word, number, name):
        """What stands against one who should own a layer that is there alone."""
        layer, faults = self.lands[word][number], self.alive_faults(name)
        if self.is_shut(layer):
            faults.add(Shut)
        if layer.holder[0] == "kids" or told_ledger(layer.seats[layer.holder[1]]) != [(name, 1, 1)]:
            faults.add(NotWhole)
        return faults

    def faults(self, kind, *things):
        if kind in ("birth", "death"):
            return {self.book.wanted(kind, things[0])} - {None}
        return getattr(self, f"{kind}_faults")(*things)

    def arrive_faults(self, word, age):
        faults = {self.book.wanted("arrive", word)} - {None} if good_word(word) else {NoText}
        return faults | (set() if 0 <= age <= 120 else {OutOfBound})

    def comes_faults(self, word):
        if not good_word(word):
            return {NoText}
        return {Taken} if word in self.came else set()

    def years_faults(self, many):
        return set() if 1 <= many <= 60 else {OutOfBound}

    def land_faults(self, word, owner, rent):
        faults = self.alive_faults(owner) | (set() if 1 <= rent <= 1000 else {OutOfBound})
        if not good_word(word):
            return faults | {NoText}
        return faults | ({Taken} if word in self.lands else set())

    def gift_faults(self, word, number, giver, rows):
        faults = set() if 1 <= len(rows) <= 6 else {OutOfBound}
        for given in rows:
            faults |= self.row_faults(given)
        if self.place_faults(word, number):
            return faults | self.place_faults(word, number) | self.alive_faults(giver)
        if self.depth(word, number) == 4:
            faults.add(TooDeep)
        return faults | self.owner_faults(word, number, giver)

    def sell_faults(self, word, number, seat, seller, buyer, num, den):
        faults = set() if 1 <= num <= den <= 100 else {OutOfBound}
        faults |= self.alive_faults(seller) | self.alive_faults(buyer)
        if self.place_faults(word, number):
            return faults | self.place_faults(word, number)
        layer = self.lands[word][number]
        if self.is_shut(layer):
            faults.add(Shut)
        if seat not in layer.seats:
            return faults | {NoSeat}
        if den > 0 and layer.seats[seat].get(seller, 0) < Fraction(num, den):
            faults.add(Short)
        return faults

    def drop_faults(self, word, number, owner):
        if self.place_faults(word, number):
            return self.place_faults(word, number) | self.alive_faults(owner)
        return self.owner_faults(word, number, owner) | ({NotWhole} if number == 0 else set())

    def depth(self, word, number):
        above = self.lands[word][number].above
        return 0 if above < 0 else 1 + self.depth(word, above)

    # Deeds against which nothing stands

    def arrive(self, word, age):
        self.book.do("arrive", word, self.year - age)

    def birth(self, name):
        child = self.book.do("birth", name, self.year)
        for layers in self.lands.values():
            for layer in layers:
                if layer.holder[0] == "kids" and layer.holder[1] == name:
                    layer.seats[child] = {child: Fraction(1)}
        return child

    def death(self, name):
        self.book.do("death", name, self.year)
        takers = self.heirs(name)
        for shares in [shares for layers in self.lands.values() for layer in layers for shares in layer.seats.values()]:
            left = shares.pop(name, 0)
            for taker, part in takers.items():
                if left:
                    shares[taker] = shares.get(taker, 0) + left * part

    def comes(self, word):
        self.came[word] = self.year

    def years(self, many):
        for turn in range(many):
            for word in self.lands:
                for name, share in self.sitters(word).items():
                    self.purses[name] = self.purses.get(name, 0) + share * self.rents[word]
            self.year += 1

    def laid(self, above, given, paper):
        kind, name = given[0][0], given[0][1]
        children = self.book.children(name) if kind == "kids" else []
        lives = [found[0] for found in self.book.rows if found[2] is None]
        layer = Layer(above, given, self.year, lives, [child for child in children if not self.alive(child)], paper)
        for seat in [child for child in children if self.alive(child)] if kind == "kids" else [name]:
            layer.seats[seat] = {seat: Fraction(1)}
        return layer

    def land(self, word, owner, rent):
        self.rents[word] = rent
        self.lands[word] = [self.laid(-1, row(one(owner)), ("sure", []))]

    def gift(self, word, number, giver, rows, world):
        """The world of the realm is asked for the papers, which are tested elsewhere."""
        layers = self.lands[word]
        first = len(layers)
        for holder, needs, ends in rows:
            given = (holder, list(needs), list(ends))
            layers.append(self.laid(number, given, judged(world, holder, needs, self.term)))
        return list(range(first, len(layers)))

    def sell(self, word, number, seat, seller, buyer, num, den):
        shares = self.lands[word][number].seats[seat]
        shares[seller] -= Fraction(num, den)
        shares[buyer] = shares.get(buyer, 0) + Fraction(num, den)

    def drop(self, word, number, owner):
        self.lands[word][number].dropped = True


class RealmChecks:
    """Checks for tests of realms."""

    def refused(self, realm, kind, deed, *things):
        """A refusal of just this class, behind which all is as it was."""
        ahead = whole_realm(realm)
        refused_with(self, kind, deed, *things)
        self.assertEqual(whole_realm(realm), ahead)

    def refused_order(self, realm, kind, text):
        self.refused(realm, kind, rule, realm, text)
