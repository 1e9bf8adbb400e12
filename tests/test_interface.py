"""The interface: names and arguments as they are promised."""

import importlib
import inspect
import unittest

FUNCTIONS = {
    "shares": """lowest(num, den); plus(one, other); minus(one, other); times(one, other); share_of(ledger, name);
        put_in(ledger, name, share); taken(ledger, name, share); passed(ledger, name, takers); mixed(ledgers)""",
    "lives": "good_word(word); parts(name); parent_of(name); Lives()",
    "world": "World(year)",
    "needs": """atom_stand(world, atom); atom_since(world, atom); stand(world, atoms); since(world, atoms, day);
        over(world, ends)""",
    "classes": """left_out(world, name); seats(world, name, age, out); waiting(world, name, age, out);
        class_stand(world, name, age, out); class_since(world, name, age, out, day)""",
    "heirs": "heirs(lives, name)",
    "terms": "first_end(world, holder, atoms); judged(world, holder, atoms, term)",
    "notes": "atom_text(atom); row_text(row); order_text(deed); read_atom(text); read_row(text); read_order(text)",
    "realm": "Realm(year, term)",
    "desk": "House(year, term); read_house(text)",
}
METHODS = {
    ("lives", "Lives"): """arrive(self, word, born); birth(self, name, year); death(self, name, year);
        known(self, name); alive(self, name); born_in(self, name); died_in(self, name); children(self, name);
        names(self); living(self); nearest(self, name); never(self, name)""",
    ("world", "World"): """pass_years(self, many); arrive(self, word, age); birth(self, name); death(self, name);
        comes(self, word); came_in(self, word); age(self, name)""",
    ("realm", "Realm"): """arrive(self, word, age); birth(self, name); death(self, name); comes(self, word);
        years(self, many); land(self, word, owner, rent); gift(self, word, number, giver, rows);
        sell(self, word, number, seat, seller, buyer, num, den); drop(self, word, number, owner); purse(self, name);
        how_many(self, word); trail(self, word); sitting(self, word); sitters(self, word); stand(self, word, number);
        since(self, word, number); paper_of(self, word, number); owners(self, word, number);
        shown(self, word, number); deadline(self, word, number); watch(self, word, number)""",
    ("desk", "House"): "order(self, text); orders(self); back(self); again(self); told(self)",
}


def shapes(text):
    """Each name with its arguments as they are written."""
    return [(shape.strip().partition("(")[0], "(" + shape.strip().partition("(")[2]) for shape in text.split(";")]


class InterfaceTest(unittest.TestCase):

    def check(self, place, text):
        for name, arguments in shapes(text):
            with self.subTest(name):
                self.assertEqual(str(inspect.signature(getattr(place, name))), arguments)

    def test_functions(self):
        for module, text in FUNCTIONS.items():
            self.check(importlib.import_module(f"deadhand.{module}"), text)

    def test_methods(self):
        for (module, name), text in METHODS.items():
            self.check(getattr(importlib.import_module(f"deadhand.{module}"), name), text)


if __name__ == "__main__":
    unittest.main()
