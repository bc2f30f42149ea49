"""The names and arguments of the interface, each in its own file."""

import inspect
import unittest

from sharebags import bags, errors, orders

LISTED = {
    bags: {
        "beads": ["family"], "degrees": ["family"], "sizes": ["family"], "pours": ["family"], "one_bag": ["size"],
        "pour": ["family", "one", "other"], "part": ["family", "index", "bead", "side"], "moves": ["family"],
        "poured": ["family"], "parted": ["family"], "is_family": ["value"], "bar": ["value"],
    },
    orders: {
        "is_coarser": ["one", "other"], "shows_way": ["one", "other", "value"], "least_coarser": ["one", "other"],
        "greatest_finer": ["one", "other"], "distance": ["one", "other"], "rank": ["family"],
        "way": ["one", "other"],
    },
}


class InterfaceTest(unittest.TestCase):
    def test_functions_stand_in_their_files_with_their_arguments(self):
        for module, functions in LISTED.items():
            for name, arguments in functions.items():
                function = getattr(module, name)
                self.assertEqual(function.__module__, module.__name__, name)
                self.assertEqual(list(inspect.signature(function).parameters), arguments, name)

    def test_arguments_may_be_named(self):
        family = ((0, 1, 2), (2, 3))
        self.assertEqual(bags.pour(family=family, one=0, other=1), ((0, 1, 2, 3),))
        self.assertEqual(bags.part(family=family, index=0, bead=2, side=(0,)), ((0, 2), (1, 2), (2, 3)))
        self.assertTrue(orders.shows_way(one=family, other=family, value=[family]))

    def test_nothing_else_is_public(self):
        for module, functions in LISTED.items():
            own = [
                name for name, value in vars(module).items()
                if inspect.isfunction(value) and value.__module__ == module.__name__ and name[0] != "_"
            ]
            self.assertEqual(sorted(own), sorted(functions))

    def test_errors_are_value_errors(self):
        self.assertTrue(issubclass(errors.BadBags, ValueError))


if __name__ == "__main__":
    unittest.main()
