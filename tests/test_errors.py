"""Tests of fieldrest/errors.py."""

import unittest

from fieldrest import errors

UNDER = ("BadKind", "BadFill", "NoDefinition", "TooGreat", "Lacks", "NoNumber", "NoRecord")


class ErrorsTest(unittest.TestCase):
    def test_each_class_is_defined_here_under_its_name(self):
        for name in ("FieldError", *UNDER):
            with self.subTest(name=name):
                found = getattr(errors, name)
                self.assertIsInstance(found, type)
                self.assertEqual(found.__name__, name)
                self.assertEqual(found.__module__, "fieldrest.errors")

    def test_field_error_is_right_under_value_error(self):
        self.assertEqual(errors.FieldError.__bases__, (ValueError,))

    def test_each_of_the_seven_is_a_field_error_and_a_value_error(self):
        for name in UNDER:
            with self.subTest(name=name):
                found = getattr(errors, name)
                self.assertTrue(issubclass(found, errors.FieldError))
                self.assertTrue(issubclass(found, ValueError))
                self.assertIsNot(found, errors.FieldError)

    def test_none_of_the_seven_is_under_another(self):
        for name in UNDER:
            for other in UNDER:
                if name != other:
                    with self.subTest(name=name, other=other):
                        self.assertFalse(issubclass(getattr(errors, name), getattr(errors, other)))

    def test_each_is_raised_and_caught_as_any_of_its_names(self):
        for name in ("FieldError", *UNDER):
            found = getattr(errors, name)
            for caught in (found, errors.FieldError, ValueError):
                with self.subTest(name=name, caught=caught):
                    with self.assertRaises(caught) as held:
                        raise found("why it is refused")
                    self.assertEqual(str(held.exception), "why it is refused")


if __name__ == "__main__":
    unittest.main()
