"""The error classes: their bases, what they are made from, their attributes."""

import unittest

from fieldtable import errors

FROM_TEXT = [
    "NoSetting", "NoField", "NoValue", "NoNumber", "NoStream", "NoOctetList", "NoLog", "Held", "TooGreat",
    "TooManyStates",
]
WITH_ATTRIBUTE = {
    "NoOctets": "place", "BadTable": "number", "BadBlock": "stream", "TooMany": "stream", "BadAnswer": "number",
    "BadOrder": "number", "NoAnswer": "event",
}


class ErrorsTest(unittest.TestCase):
    def test_field_error_derives_directly_from_value_error(self):
        self.assertEqual(errors.FieldError.__bases__, (ValueError,))
        self.assertEqual(str(errors.FieldError("some words")), "some words")

    def test_all_others_derive_directly_from_field_error(self):
        for name in FROM_TEXT + list(WITH_ATTRIBUTE):
            with self.subTest(name=name):
                self.assertEqual(getattr(errors, name).__bases__, (errors.FieldError,))
                self.assertEqual(getattr(errors, name).__module__, "fieldtable.errors")

    def test_just_these_classes_are_there(self):
        there = [name for name, thing in vars(errors).items() if isinstance(thing, type)]
        self.assertEqual(sorted(there), sorted(FROM_TEXT + list(WITH_ATTRIBUTE) + ["FieldError"]))

    def test_made_from_a_text(self):
        for name in FROM_TEXT:
            with self.subTest(name=name):
                error = getattr(errors, name)("some words")
                self.assertEqual(str(error), "some words")
                self.assertEqual(vars(error), {})

    def test_made_from_the_attribute(self):
        for name, attribute in WITH_ATTRIBUTE.items():
            for number in (0, 7, 2000):
                with self.subTest(name=name, number=number):
                    error = getattr(errors, name)(number)
                    self.assertEqual(vars(error), {attribute: number})
                    self.assertIs(type(getattr(error, attribute)), int)

    def test_the_attribute_is_the_name_of_the_argument(self):
        for name, attribute in WITH_ATTRIBUTE.items():
            with self.subTest(name=name):
                self.assertEqual(vars(getattr(errors, name)(**{attribute: 3})), {attribute: 3})

    def test_the_attribute_is_needed(self):
        for name in WITH_ATTRIBUTE:
            with self.subTest(name=name):
                self.assertRaises(TypeError, getattr(errors, name))

    def test_each_is_caught_as_a_value_error(self):
        for name in FROM_TEXT + list(WITH_ATTRIBUTE):
            with self.subTest(name=name):
                with self.assertRaises(ValueError):
                    raise getattr(errors, name)(3)


if __name__ == "__main__":
    unittest.main()
