"""The interface: names, arguments, and the files in which they are defined."""

import inspect
import unittest
from importlib import import_module

FUNCTIONS = {
    "pinshelf.deeds": {"done": ["shelf", "deeds"]},
    "pinshelf.stretches": {"stays": ["shelf", "goal"], "barred": ["shelf", "goal"]},
    "pinshelf.least": {"least": ["shelf", "goal"], "fewest": ["shelf", "goal"], "ways": ["shelf", "goal"],
                       "judged": ["shelf", "goal", "deeds"], "spare": ["shelf", "goal"]},
    "pinshelf.wishes": {"cheapest": ["shelf", "wish"]},
    "pinshelf.notes": {"written": ["shelf"], "read": ["text"]},
}
METHODS = {"put": ["deed"], "lay": ["goal"], "spent": [], "back": ["many"], "is_idle": [], "shelf": [],
           "taken": [], "works": [], "lines": [], "marks": [], "batch": ["deeds", "keep"],
           "mark": ["name"], "go": ["name"]}
ERRORS = ["ShelfError", "BadShelf", "BadGoal", "BadWish", "BadWay", "NoWay", "BadName", "NoPoint",
          "Halted", "BadText"]


class Interface(unittest.TestCase):
    def test_functions_are_defined_in_their_files(self):
        for file, functions in FUNCTIONS.items():
            for name, arguments in functions.items():
                with self.subTest(f"{file}.{name}"):
                    function = getattr(import_module(file), name)
                    self.assertTrue(inspect.isfunction(function))
                    self.assertEqual(function.__module__, file)
                    self.assertEqual(list(inspect.signature(function).parameters), arguments)

    def test_functions_take_their_arguments_by_name(self):
        shelf = ((1, 2), ((0, 1),))
        goal = ((1, 0),)
        done = import_module("pinshelf.deeds").done
        stretches = import_module("pinshelf.stretches")
        self.assertEqual(done(shelf=shelf, deeds=[(0, 0, "last")]), (goal, 1))
        self.assertEqual(stretches.stays(shelf=shelf, goal=goal), [[(0, 1)]])
        self.assertIsNone(stretches.barred(shelf=shelf, goal=goal))
        least = import_module("pinshelf.least")
        way = [(0, 0, "last")]
        self.assertEqual(least.least(shelf=shelf, goal=goal), (1, way))
        self.assertEqual(least.fewest(shelf=shelf, goal=goal), 1)
        self.assertEqual(least.ways(shelf=shelf, goal=goal), 1)
        self.assertEqual(least.judged(shelf=shelf, goal=goal, deeds=way), (True, 0))
        self.assertEqual(least.spare(shelf=shelf, goal=goal), [1])
        cheapest = import_module("pinshelf.wishes").cheapest
        self.assertEqual(cheapest(shelf=shelf, wish=(None, 0)), (0, shelf[1]))
        notes = import_module("pinshelf.notes")
        self.assertEqual(notes.written(shelf=shelf), "prices 1 2\nlot 0 1")
        self.assertEqual(notes.read(text="prices 1 2\nlot 0 1"), shelf)

    def test_desk_is_defined_in_its_file_with_its_methods(self):
        desk = import_module("pinshelf.desks").Desk
        self.assertTrue(inspect.isclass(desk))
        self.assertEqual(desk.__module__, "pinshelf.desks")
        self.assertEqual(list(inspect.signature(desk).parameters), ["shelf"])
        for name, arguments in METHODS.items():
            with self.subTest(name):
                method = vars(desk)[name]
                self.assertTrue(inspect.isfunction(method))
                self.assertEqual(list(inspect.signature(method).parameters)[1:], arguments)

    def test_keep_is_handed_in_by_its_name_alone(self):
        desk = import_module("pinshelf.desks").Desk(((1, 2), ((0, 1),)))
        keep = inspect.signature(desk.batch).parameters["keep"]
        self.assertEqual(keep.kind, inspect.Parameter.KEYWORD_ONLY)
        self.assertIs(keep.default, True)
        with self.assertRaises(TypeError):
            desk.batch([], False)

    def test_methods_take_their_arguments_by_name(self):
        desk = import_module("pinshelf.desks").Desk(shelf=((1, 2), ((0, 1),)))
        self.assertEqual(desk.put(deed=(0, 0, "last")), 1)
        self.assertEqual(desk.lay(goal=((0, 1),)), 1)
        self.assertIs(desk.back(many=1), True)
        self.assertEqual(desk.batch(deeds=[(1, 0, "last")], keep=False), [2])
        self.assertIsNone(desk.mark(name="here"))
        self.assertIsNone(desk.go(name="here"))

    def test_errors_are_defined_in_their_file(self):
        for name in ERRORS:
            with self.subTest(name):
                found = getattr(import_module("pinshelf.errors"), name)
                self.assertTrue(inspect.isclass(found))
                self.assertEqual(found.__module__, "pinshelf.errors")


if __name__ == "__main__":
    unittest.main()
