"""The interface of shelfbots.errors."""

import unittest

from shelfbots import errors

PLACES = {
    "SyntaxFault": ("line", "column"),
    "CheckFault": ("reason", "line", "column"),
    "InvalidTick": (),
    "InvalidNumber": (),
    "TooLong": (),
    "DifferentShelves": (),
    "Contradiction": (),
    "InvalidCode": ("place",),
    "CellFull": (),
    "CellEmpty": (),
    "InvalidName": (),
    "UnknownName": (),
    "InvalidOperation": ("place",),
}


class ErrorsTest(unittest.TestCase):

    def test_base_class(self):
        self.assertEqual(errors.BotError.__bases__, (ValueError,))
        self.assertEqual(str(errors.BotError("some words")), "some words")

    def test_all_others_are_direct_subclasses(self):
        for name in PLACES:
            with self.subTest(name=name):
                self.assertEqual(getattr(errors, name).__bases__, (errors.BotError,))

    def test_no_further_errors(self):
        found = {name for name, value in vars(errors).items() if isinstance(value, type)}
        self.assertEqual(found, {"BotError", *PLACES})

    def test_classes_are_defined_in_the_file(self):
        for name in ("BotError", *PLACES):
            with self.subTest(name=name):
                self.assertEqual(getattr(errors, name).__module__, "shelfbots.errors")

    def test_attributes(self):
        values = {"reason": "cells", "line": 3, "column": 14, "place": 7}
        for name, attributes in PLACES.items():
            with self.subTest(name=name):
                error = getattr(errors, name)(*[values[key] for key in attributes])
                self.assertEqual(vars(error), {key: values[key] for key in attributes})

    def test_errors_can_be_raised_and_shown(self):
        with self.assertRaises(ValueError) as caught:
            raise errors.CheckFault("same", 1, 2)
        self.assertIn("same", str(caught.exception))
        self.assertNotEqual(str(errors.SyntaxFault(1, 2)), "")


if __name__ == "__main__":
    unittest.main()
