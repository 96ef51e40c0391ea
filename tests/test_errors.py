"""The interface of sayarrows/errors.py."""

import unittest

from sayarrows import errors

PLAIN = (
    "NoSaying", "NoLetter", "NoWord", "NoGuard", "NoShape", "NoGuards", "NoMachine", "NoTurner",
    "NoPlain", "NoHead", "NoWhole", "NoName", "NoDeed", "NoLine",
)
WITH_FIELDS = {"BadMachine": ("at",), "BadTurner": ("at",), "NoText": ("line",), "TooMany": ("many", "most")}


class Errors(unittest.TestCase):
    def test_say_error_stands_under_value_error(self):
        self.assertEqual(errors.SayError.__bases__, (ValueError,))

    def test_each_class_stands_straight_under_say_error(self):
        for name in PLAIN + tuple(WITH_FIELDS):
            with self.subTest(name):
                self.assertEqual(getattr(errors, name).__bases__, (errors.SayError,))

    def test_no_other_errors_are_there(self):
        found = {name for name, value in vars(errors).items() if isinstance(value, type)}
        self.assertEqual(found, {"SayError", *PLAIN, *WITH_FIELDS})

    def test_plain_ones_are_made_without_anything(self):
        for name in PLAIN:
            with self.subTest(name), self.assertRaises(getattr(errors, name)):
                raise getattr(errors, name)()

    def test_fields_by_place_and_by_name(self):
        for name, fields in WITH_FIELDS.items():
            kind = getattr(errors, name)
            worths = tuple(range(7, 7 + len(fields)))
            by_name = dict(zip(fields, worths))
            mixed = dict(list(by_name.items())[1:])
            for error in (kind(*worths), kind(**by_name), kind(worths[0], **mixed)):
                with self.subTest(name):
                    self.assertEqual(tuple(getattr(error, field) for field in fields), worths)

    def test_fields_of_wrong_number_or_name_are_not_taken(self):
        for name, fields in WITH_FIELDS.items():
            kind = getattr(errors, name)
            with self.subTest(name):
                self.assertRaises(TypeError, kind)
                self.assertRaises(TypeError, kind, *range(len(fields) + 1))
                self.assertRaises(TypeError, lambda: kind(other=1))


if __name__ == "__main__":
    unittest.main()
