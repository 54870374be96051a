"""The interface: names, arguments, and the files in which they are defined."""

import inspect
import unittest
from importlib import import_module

FUNCTIONS = {
    "pinshelf.deeds": {"done": ["shelf", "deeds"]},
    "pinshelf.stretches": {"stays": ["shelf", "goal"], "barred": ["shelf", "goal"]},
}
ERRORS = ["ShelfError", "BadShelf", "BadGoal", "BadWish", "BadWay", "NoWay", "BadName", "NoPoint",
          "Halted", "BadText"]


class Interface(unittest.TestCase):
    def test_functions_are_defined_in_their_files(self):
        for file, functions in FUNCTIONS.items():
            for name, arguments in functions.items():
                with self.subTest(f"{file}.{name}"):
                    function = getattr(import_module(file), name)
                    self.assertTrue(inspect.isfunction(function))
                    self.assertEqual(function.__module__, file)
                    self.assertEqual(list(inspect.signature(function).parameters), arguments)

    def test_functions_take_their_arguments_by_name(self):
        shelf = ((1, 2), ((0, 1),))
        goal = ((1, 0),)
        done = import_module("pinshelf.deeds").done
        stretches = import_module("pinshelf.stretches")
        self.assertEqual(done(shelf=shelf, deeds=[(0, 0, "last")]), (goal, 1))
        self.assertEqual(stretches.stays(shelf=shelf, goal=goal), [[(0, 1)]])
        self.assertIsNone(stretches.barred(shelf=shelf, goal=goal))

    def test_errors_are_defined_in_their_file(self):
        for name in ERRORS:
            with self.subTest(name):
                found = getattr(import_module("pinshelf.errors"), name)
                self.assertTrue(inspect.isclass(found))
                self.assertEqual(found.__module__, "pinshelf.errors")


if __name__ == "__main__":
    unittest.main()
