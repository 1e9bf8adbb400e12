"""Sure and late rows, held against all that can follow in small worlds (points 16 to 18)."""

import itertools
import unittest

from deadhand.classes import class_stand
from deadhand.needs import atom_stand
from deadhand.terms import first_end, judged
from helping import grown
from judging import kids, one, out_of

TERMS = (0, 1, 2)
# Ages and years are so small that all of them are reached within these years and the longest term.
LATEST = 2
HORIZON = LATEST + max(TERMS)
WORLDS = (
    (["arrive ann 20"], 2, ["ann", "ann.1"]),
    (["arrive ann 20", "birth ann"], 2, ["ann", "ann.1", "ann.2"]),
    (["arrive ann 20", "birth ann", "years 1", "birth ann", "death ann"], 2, ["ann", "ann.1", "ann.2"]),
    (["arrive ann 20", "birth ann", "birth ann.1", "death ann.1"], 2, ["ann", "ann.1", "ann.1.1"]),
    (["arrive ann 20", "arrive bob 1"], 2, ["ann", "bob", "ann.1", "bob.1"]),
    (["arrive ann 20", "birth ann", "death ann", "death ann.1"], 0, ["ann", "ann.1"]),
)


def key(world):
    lives = world.lives
    return (world.year, tuple((name, lives.born_in(name), lives.died_in(name)) for name in sorted(lives.names())))


def steps(world, births, last):
    """All worlds that one deed makes of a world."""
    deeds = [("pass_years", 1)] if world.year < last else []
    for name in world.lives.living():
        deeds.append(("death", name))
        if births and name.count(".") < 5:
            deeds.append(("birth", name))
    for kind, thing in deeds:
        there = world.twin()
        getattr(there, kind)(thing)
        yield (there, births - (kind == "birth"))


def all_that_follows(world, births):
    """All worlds that can follow, with at most so many births, each once."""
    seen, left = {(key(world), births)}, [(world, births)]
    while left:
        at, many = left.pop()
        yield at
        for there, rest in steps(at, many, world.year + HORIZON):
            if (key(there), rest) not in seen:
                seen.add((key(there), rest))
                left.append((there, rest))


def pool(world, names):
    """Needs about some names, all with ages and years that are near."""
    atoms = [("year", world.year), ("year", world.year + 1), ("year", world.year + 2), ("comes", "war")]
    for name in names:
        atoms += [("born", name), ("dead", name)]
        born = world.lives.born_in(name) if world.lives.known(name) else world.year
        ages = [world.year - born + more for more in range(LATEST + 1)]
        atoms += [("age", name, age) for age in ages]
    return atoms + [("born", names[-1] + ".1"), ("dead", names[-1] + ".1"), ("age", names[-1] + ".1", 0)]


def holders(world, names):
    """Holders that a gift would not refuse."""
    ones = [one(name) for name in names + [names[-1] + ".1"]]
    ones = [held for held in ones if world.lives.alive(held[1]) or not world.lives.known(held[1])]
    classes = [kids(name, age) for name in names for age in range(LATEST + 1)]
    return [held for held in ones + classes if not world.lives.never(held[1])]


class SearchTest(unittest.TestCase):

    def masks(self, world, parts):
        """Which parts hang and which have failed, as the bits of two numbers; a class brings those left out."""
        hang = fail = 0
        for at, (part, out) in enumerate(parts):
            how = atom_stand(world, part) if part[0] != "kids" else class_stand(world, *part[1:], out)
            hang |= (how == "hangs") << at
            fail |= (how == "failed") << at
        return hang, fail

    def search(self, world, births, parts):
        """By which masks parts stand where all lives are dead, with the most years behind the last death of each;
        and the years of the last deaths with the parts that had failed by then."""
        lives, found, ends = world.lives.living(), {}, {}
        for there in all_that_follows(world, births):
            if not any(there.lives.alive(name) for name in lives):
                last = max([world.year] + [there.lives.died_in(name) for name in lives])
                masks = self.masks(there, parts)
                found[masks] = max(found.get(masks, 0), there.year - last)
                ends[masks[1]] = min(ends.get(masks[1], there.year), there.year)
        return found, ends

    def rows(self, world, atoms, names):
        for held in holders(world, names):
            for many in range(3):
                for chosen in itertools.combinations(atoms, many):
                    yield held, list(chosen)

    def check_world(self, deeds, births, names):
        world = grown(5, deeds)
        atoms = pool(world, names)
        parts = [(atom, []) for atom in atoms]
        parts += [(held, out_of(world, held)) for held in holders(world, names) if held[0] == "kids"]
        place = {part: at for at, (part, out) in enumerate(parts)}
        found, ends = self.search(world, births, parts)
        now = self.masks(world, parts)
        for held, chosen in self.rows(world, atoms, names):
            wanted = chosen + [held if held[0] == "kids" else ("born", held[1])]
            mask = sum(1 << place[part] for part in set(wanted))
            lags = [lag for (hang, fail), lag in found.items() if mask & hang and not mask & fail]
            hangs = bool(mask & now[0] and not mask & now[1])
            for term in TERMS:
                late = hangs and max(lags, default=-1) >= term
                self.assertEqual(judged(world, held, chosen, term)[0], "late" if late else "sure", (held, chosen, term))
            if hangs:
                end = min(year for fail, year in ends.items() if not mask & fail)
                self.assertEqual(first_end(world, held, chosen), end, (held, chosen))

    def test_small_worlds(self):
        for deeds, births, names in WORLDS:
            with self.subTest(deeds):
                self.check_world(deeds, births, names)


if __name__ == "__main__":
    unittest.main()
