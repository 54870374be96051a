"""The errors of the interface."""

import unittest

from pinshelf import errors

VALUES = {
    "BadShelf": {"part": 1, "number": 4},
    "BadGoal": {"number": 3},
    "BadWish": {"number": 2},
    "BadWay": {"number": 5, "why": "fixed"},
    "NoWay": {},
    "BadName": {},
    "NoPoint": {},
    "Halted": {"number": 7, "done": 6},
    "BadText": {"row": 8},
}


class Errors(unittest.TestCase):
    def test_shelf_error_is_a_value_error(self):
        self.assertEqual(errors.ShelfError.__bases__, (ValueError,))

    def test_each_class_stands_under_shelf_error_alone(self):
        for name in VALUES:
            with self.subTest(name):
                self.assertEqual(getattr(errors, name).__bases__, (errors.ShelfError,))

    def test_none_is_caught_as_another_one(self):
        for name in VALUES:
            for other in VALUES:
                with self.subTest(f"{name} as {other}"):
                    found = issubclass(getattr(errors, name), getattr(errors, other))
                    self.assertEqual(found, name == other)

    def test_each_bears_its_values_by_their_names(self):
        for name, values in VALUES.items():
            with self.subTest(name):
                error = getattr(errors, name)(**values)
                self.assertEqual(vars(error), values)

    def test_each_can_be_raised_and_caught_as_shelf_error(self):
        for name, values in VALUES.items():
            with self.subTest(name):
                with self.assertRaises(errors.ShelfError) as caught:
                    raise getattr(errors, name)(**values)
                self.assertEqual(type(caught.exception).__name__, name)
                self.assertIsInstance(str(caught.exception), str)

    def test_each_is_made_with_its_values_only(self):
        for name, values in VALUES.items():
            with self.subTest(name):
                with self.assertRaises(TypeError):
                    getattr(errors, name)(**values, further=1)
                if values:
                    with self.assertRaises(TypeError):
                        getattr(errors, name)()


if __name__ == "__main__":
    unittest.main()
