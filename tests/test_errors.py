"""The interface's crcgate/errors.py."""

import unittest

from crcgate import errors

NINE = (
    errors.NoRow, errors.NoSign, errors.NoDivisor, errors.NoCount, errors.TooLong,
    errors.TooShort, errors.Broken, errors.NoMate, errors.NoText,
)
NAMES = (
    "NoRow", "NoSign", "NoDivisor", "NoCount", "TooLong",
    "TooShort", "Broken", "NoMate", "NoText",
)


class TestErrors(unittest.TestCase):
    def test_the_refusal_is_a_value_error(self):
        self.assertTrue(issubclass(errors.GateError, ValueError))
        self.assertEqual(errors.GateError.__name__, "GateError")

    def test_each_of_the_nine_is_a_refusal(self):
        for name, kind in zip(NAMES, NINE):
            with self.subTest(name):
                self.assertEqual(kind.__name__, name)
                self.assertTrue(issubclass(kind, errors.GateError))
                self.assertIsNot(kind, errors.GateError)

    def test_none_of_the_nine_stands_under_another(self):
        for one in NINE:
            for other in NINE:
                if one is not other:
                    self.assertFalse(issubclass(one, other), (one, other))

    def test_each_is_raised_and_caught_by_its_name_and_as_value_error(self):
        for kind in NINE:
            for caught in (kind, errors.GateError, ValueError):
                with self.assertRaises(caught):
                    raise kind("refused")

    def test_they_are_defined_in_this_file(self):
        for kind in NINE + (errors.GateError,):
            self.assertEqual(kind.__module__, "crcgate.errors")
