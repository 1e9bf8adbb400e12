"""What the tests of sure and late rows need: the whole need, stories that are played, futures that are drawn."""

import copy

from deadhand.classes import class_stand, left_out
from deadhand.needs import atom_stand
from deadhand.terms import first_end, judged
from helping import HAPPENINGS, any_placed_name, wait, whole_world

PEOPLE = ("born", "dead", "age")


def one(name):
    return ("one", name)


def kids(name, age):
    return ("kids", name, age)


def out_of(world, holder):
    """Those dead now, for a class."""
    return left_out(world, holder[1]) if holder[0] == "kids" else []


def part_stands(world, holder, atoms, out):
    """How each part of the whole need stands."""
    stands = [atom_stand(world, atom) for atom in atoms]
    if holder[0] == "kids":
        return stands + [class_stand(world, holder[1], holder[2], out)]
    return stands + [atom_stand(world, ("born", holder[1]))]


def whole(world, holder, atoms, out):
    """How the whole need stands."""
    stands = part_stands(world, holder, atoms, out)
    return next((how for how in ("failed", "hangs") if how in stands), "met")


def told_names(world, holder, atoms):
    """The names of a sure row, as point 17 tells them."""
    out = out_of(world, holder)
    if whole(world, holder, atoms, out) != "hangs":
        return []
    wanted = atoms + ([("born", holder[1])] if holder[0] == "one" else [])
    names = set()
    for atom in wanted:
        if atom[0] in PEOPLE and atom_stand(world, atom) == "hangs":
            names.add(world.lives.nearest(atom[1]))
    if holder[0] == "kids" and world.lives.known(holder[1]):
        names |= {holder[1]} if world.lives.alive(holder[1]) else set()
        for child in world.lives.children(holder[1]):
            if world.lives.alive(child) and world.year - world.lives.born_in(child) < holder[2]:
                names.add(child)
    return sorted(names)


def play(case, world, deed):
    """Do one deed of a story, which has to be one that can be done."""
    case.assertIs(type(deed), tuple)
    kind, thing = deed
    if kind == "years":
        case.assertTrue(1 <= thing <= 60)
        world.pass_years(thing)
        return
    case.assertIn(kind, ("birth", "death"))
    case.assertTrue(world.lives.alive(thing), deed)
    (world.birth if kind == "birth" else world.death)(thing)


def last_death(world, names, day):
    """The greatest of a day's year and the years in which some who are dead died."""
    return max([day] + [world.lives.died_in(name) for name in names])


def check_story(case, world, holder, atoms, term, story):
    """Play a story in a copy of a world; the copy is told."""
    case.assertIs(type(story), list)
    case.assertLessEqual(len(story), 4000)
    day, lives, out = world.year, world.lives.living(), out_of(world, holder)
    there = copy.deepcopy(world)
    for deed in story:
        play(case, there, deed)
    case.assertEqual([name for name in lives if there.lives.alive(name)], [])
    case.assertGreaterEqual(there.year, last_death(there, lives, day) + term)
    case.assertEqual(whole(there, holder, atoms, out), "hangs")
    return there


def check_paper(case, world, holder, atoms, term):
    """Ask for a paper, and hold what it says of itself against the document; the paper is told."""
    ahead, asked = whole_world(world), list(atoms)
    paper = judged(world, holder, atoms, term)
    case.assertEqual((whole_world(world), atoms), (ahead, asked))
    case.assertIs(type(paper), tuple)
    case.assertEqual(judged(world, holder, atoms, term), paper)
    if paper[0] == "late":
        check_story(case, world, holder, atoms, term, paper[1])
    else:
        case.assertEqual(paper, ("sure", told_names(world, holder, atoms)))
    return paper


def check_moment(case, world, holder, atoms, term, names, day, out):
    """Where the told names are dead and the term is over, the whole need is settled."""
    if any(world.lives.alive(name) for name in names):
        return
    if world.year >= last_death(world, names, day) + term:
        case.assertNotEqual(whole(world, holder, atoms, out), "hangs")


def drawn_deed(chance, world, names):
    """One deed of a future, with a leaning towards births below some, and deaths of some."""
    living = world.lives.living()
    told = [name for name in names if world.lives.alive(name)]
    kind = chance.choice(["birth", "birth", "death", "death", "years", "years", "comes"])
    if kind == "birth" and living:
        parents = [name for name in (told or living) + living if name.count(".") < 5]
        if parents:
            world.birth(chance.choice(parents))
    elif kind == "death" and living:
        world.death(chance.choice(told + living))
    elif kind == "comes":
        to_come = [word for word in HAPPENINGS if world.came_in(word) is None]
        if to_come and chance.random() < 0.1:
            world.comes(chance.choice(to_come))
    else:
        world.pass_years(chance.choice([1, 1, 2, 5, 20]))


def check_future(case, chance, world, holder, atoms, term, names):
    """Draw one future of a sure row, and look at every moment of it."""
    day, out = world.year, out_of(world, holder)
    there = copy.deepcopy(world)
    check_moment(case, there, holder, atoms, term, names, day, out)
    for turn in range(chance.randint(0, 12)):
        drawn_deed(chance, there, names)
        check_moment(case, there, holder, atoms, term, names, day, out)
    if chance.random() < 0.5:
        # All who live grow as old as the row asks, so that nothing fails by their deaths.
        wait(there, max(0, chance.choice([first_end(world, holder, atoms), day + 121]) - there.year))
    for name in names:
        if there.lives.alive(name):
            if name.count(".") < 5:
                there.birth(name)
            there.death(name)
    wait(there, max(0, last_death(there, names, day) + term - there.year))
    check_moment(case, there, holder, atoms, term, names, day, out)
    for turn in range(6):
        drawn_deed(chance, there, names)
        check_moment(case, there, holder, atoms, term, names, day, out)


def any_atom(chance, world):
    """A need that a gift would not refuse."""
    kind = chance.choice(["year", "comes", "born", "dead", "age", "age", "age"])
    if kind == "year":
        return (kind, min(9999, max(0, world.year + chance.choice([-5, 0, 1, 2, 20, 21, 22, 60, 61, 100]))))
    if kind == "comes":
        return (kind, chance.choice(HAPPENINGS))
    name = any_placed_name(chance, world)
    return (kind, name, chance.choice([0, 1, 2, 20, 21, 22, 60, 61, 119, 120])) if kind == "age" else (kind, name)


def any_holder(chance, world):
    """A holder that a gift would not refuse, or None where chance found none."""
    for turn in range(50):
        name = any_placed_name(chance, world)
        if world.lives.never(name):
            continue
        if name.count(".") < 5 and chance.random() < 0.5:
            return kids(name, chance.choice([0, 1, 2, 20, 21, 22, 60, 61, 120]))
        if world.lives.alive(name) or not world.lives.known(name):
            return one(name)
    return None
