"""The interface: names and arguments as they are promised."""

import importlib
import inspect
import unittest

FUNCTIONS = {
    "shares": """lowest(num, den); plus(one, other); minus(one, other); times(one, other); share_of(ledger, name);
        put_in(ledger, name, share); taken(ledger, name, share); passed(ledger, name, takers); mixed(ledgers)""",
    "lives": "good_word(word); parts(name); parent_of(name); Lives()",
    "world": "World(year)",
    "needs": """atom_stand(world, atom); atom_since(world, atom); stand(world, atoms); since(world, atoms, day);
        over(world, ends)""",
    "classes": """left_out(world, name); seats(world, name, age, out); waiting(world, name, age, out);
        class_stand(world, name, age, out); class_since(world, name, age, out, day)""",
    "heirs": "heirs(lives, name)",
    "terms": "first_end(world, holder, atoms); judged(world, holder, atoms, term)",
}
METHODS = {
    ("lives", "Lives"): """arrive(self, word, born); birth(self, name, year); death(self, name, year);
        known(self, name); alive(self, name); born_in(self, name); died_in(self, name); children(self, name);
        names(self); living(self); nearest(self, name); never(self, name)""",
    ("world", "World"): """pass_years(self, many); arrive(self, word, age); birth(self, name); death(self, name);
        comes(self, word); came_in(self, word); age(self, name)""",
}


def shapes(text):
    """Each name with its arguments as they are written."""
    return [(shape.strip().partition("(")[0], "(" + shape.strip().partition("(")[2]) for shape in text.split(";")]


class InterfaceTest(unittest.TestCase):

    def check(self, place, text):
        for name, arguments in shapes(text):
            with self.subTest(name):
                self.assertEqual(str(inspect.signature(getattr(place, name))), arguments)

    def test_functions(self):
        for module, text in FUNCTIONS.items():
            self.check(importlib.import_module(f"deadhand.{module}"), text)

    def test_methods(self):
        for (module, name), text in METHODS.items():
            self.check(getattr(importlib.import_module(f"deadhand.{module}"), name), text)


if __name__ == "__main__":
    unittest.main()
