"""The interface of gaplesskeys.errors."""

import copy
import pickle
import unittest

from gaplesskeys import errors
from tests.helper import NO_INTEGERS, NO_WORDS, raised

FIELDS = {
    "InvalidRange": "value", "InvalidMoment": "value", "InvalidContents": "part",
    "InvalidPlan": "number", "InvalidKind": "value", "InvalidCall": "value",
    "InvalidRun": "number", "InvalidDays": "value", "InvalidKeys": "value",
    "InvalidReport": "value", "ParseError": "line", "InvalidCommand": "value",
    "UnknownName": "name", "UnknownEdition": "number", "NoKeyLeft": "role",
    "TooSoon": "moment", "Pending": "number", "LimitExceeded": "limit",
}
OTHER_BASES = {
    "UnknownName": LookupError, "UnknownEdition": LookupError, "NoKeyLeft": RuntimeError,
    "TooSoon": RuntimeError, "Pending": RuntimeError, "LimitExceeded": OverflowError,
}


class Errors(unittest.TestCase):
    def test_base_class_of_invalid_input(self):
        self.assertEqual(errors.GapError.__bases__, (ValueError,))

    def test_each_class_has_its_base_class_and_no_other(self):
        for name in FIELDS:
            base = OTHER_BASES.get(name, errors.GapError)
            self.assertEqual(getattr(errors, name).__bases__, (base,), name)

    def test_each_class_is_defined_in_the_file_that_lists_it(self):
        for name in [*FIELDS, "GapError"]:
            self.assertEqual(getattr(errors, name).__module__, "gaplesskeys.errors", name)

    def test_made_by_position_and_by_name(self):
        for name, field in FIELDS.items():
            made = getattr(errors, name)
            for value in [*NO_INTEGERS, *NO_WORDS, 0, "app"]:
                self.assertIs(getattr(made(value), field), value, name)
                self.assertIs(getattr(made(**{field: value}), field), value, name)

    def test_made_of_exactly_one_argument(self):
        for name in FIELDS:
            made = getattr(errors, name)
            self.assertIsInstance(raised(made), TypeError, name)
            self.assertIsInstance(raised(made, 1, 2), TypeError, name)
            self.assertIsInstance(raised(made, other=1), TypeError, name)

    def test_raised_and_caught_by_the_classes_above(self):
        for name, field in FIELDS.items():
            made = getattr(errors, name)
            with self.assertRaises(OTHER_BASES.get(name, ValueError)) as caught:
                raise made("x")
            self.assertEqual(getattr(caught.exception, field), "x")

    def test_other_errors_are_not_invalid_input(self):
        for name in OTHER_BASES:
            self.assertFalse(issubclass(getattr(errors, name), ValueError), name)

    def test_copies_keep_the_field(self):
        for name, field in FIELDS.items():
            error = getattr(errors, name)(7)
            for twin in (copy.copy(error), copy.deepcopy(error), pickle.loads(pickle.dumps(error))):
                self.assertEqual(getattr(twin, field), 7, name)
