"""The errors of errors.py, as the interface lists them."""

import unittest

from butthese import errors
from plain import PAIRS, anything

ATTRIBUTES = {"BadSigns": "value", "BadTree": "value", "BadForm": "value", "BadForms": "position",
              "BadValues": "value", "NotPlain": "position", "HasMore": "value", "BadCondition": "position",
              "NotThere": "value", "TooFar": "count", "BadText": "value"}


class Errors(unittest.TestCase):
    def test_form_error_is_a_value_error(self):
        self.assertEqual(errors.FormError.__bases__, (ValueError,))
        self.assertEqual(errors.FormError.__module__, "butthese.errors")

    def test_the_others_are_direct_subclasses_of_form_error(self):
        for name in ATTRIBUTES:
            self.assertEqual(getattr(errors, name).__bases__, (errors.FormError,))
            self.assertEqual(getattr(errors, name).__module__, "butthese.errors")

    def test_no_other_errors(self):
        found = [name for name, value in vars(errors).items() if isinstance(value, type)]
        self.assertEqual(sorted(found), sorted([*ATTRIBUTES, "FormError"]))

    def test_each_keeps_the_very_value_whatever_it_is(self):
        for name, attribute in ATTRIBUTES.items():
            for value in [*anything(), PAIRS, ["a list"], {"a": "dict"}]:
                self.assertIs(getattr(getattr(errors, name)(value), attribute), value)
                self.assertIs(getattr(getattr(errors, name)(**{attribute: value}), attribute), value)

    def test_each_is_made_with_one_argument(self):
        for name in ATTRIBUTES:
            with self.assertRaises(TypeError):
                getattr(errors, name)()
            with self.assertRaises(TypeError):
                getattr(errors, name)(1, 2)

    def test_they_are_caught_as_what_they_are(self):
        for name in ATTRIBUTES:
            for kind in (getattr(errors, name), errors.FormError, ValueError):
                with self.assertRaises(kind):
                    raise getattr(errors, name)(3)


if __name__ == "__main__":
    unittest.main()
