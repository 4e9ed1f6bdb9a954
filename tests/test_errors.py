"""The errors: [2.5] and the heading towerup/errors.py."""

import unittest

from towerup import errors
from towerup.errors import TowerError

VALUES = {
    "BadLimit": (), "TooMany": ("limit",), "BadKind": ("part",), "NoMethod": ("method",), "NoState": ("state",),
    "NoArgument": ("argument",), "BadSetting": ("part",), "BadJoin": ("part",), "BadCalls": ("index",),
    "Unlike": (), "BadSides": (), "BadHistory": ("index",), "BadEvent": (), "NoCall": ("side",), "NotQuiet": (),
    "NoOrder": (), "BadContract": ("side",), "NoSide": ("side",), "NoMode": ("mode",), "NoResult": ("result",),
    "BadThing": ("part",), "BadSide": ("method", "place", "why"), "NoPlace": ("place",), "BadHouse": ("part",),
    "NoThing": ("name",), "BadStep": ("index",), "NoStep": (), "BadNumbers": (), "Broken": (),
    "NoCompose": ("why",), "BadOptions": ("name",), "BadText": ("line",),
}


class Errors(unittest.TestCase):
    def test_tower_error_stands_directly_under_value_error(self):
        self.assertEqual(TowerError.__bases__, (ValueError,))

    def test_each_error_stands_directly_under_tower_error(self):
        for name in VALUES:
            with self.subTest(name):
                self.assertEqual(getattr(errors, name).__bases__, (TowerError,))

    def test_no_error_stands_under_another_one(self):
        for name in VALUES:
            for other in VALUES:
                if name != other:
                    self.assertFalse(issubclass(getattr(errors, name), getattr(errors, other)), (name, other))

    def test_there_are_no_other_errors(self):
        found = {name for name, value in vars(errors).items() if isinstance(value, type)}
        self.assertEqual(found, set(VALUES) | {"TowerError"})

    def test_values_by_position(self):
        for name, names in VALUES.items():
            values = [["told", number] for number in range(len(names))]
            error = getattr(errors, name)(*values)
            for attribute, value in zip(names, values):
                with self.subTest(name=name, attribute=attribute):
                    self.assertIs(getattr(error, attribute), value)

    def test_values_by_name(self):
        for name, names in VALUES.items():
            values = {attribute: {"told": attribute} for attribute in names}
            error = getattr(errors, name)(**values)
            for attribute, value in values.items():
                with self.subTest(name=name, attribute=attribute):
                    self.assertIs(getattr(error, attribute), value)

    def test_values_are_asked_for(self):
        for name, names in VALUES.items():
            if names:
                with self.subTest(name), self.assertRaises(TypeError):
                    getattr(errors, name)()

    def test_they_are_caught_as_value_errors(self):
        for name, names in VALUES.items():
            with self.subTest(name), self.assertRaises(ValueError):
                raise getattr(errors, name)(*names)


if __name__ == "__main__":
    unittest.main()
