"""The errors: made with their fields, by place and by name, one directly below another."""

import unittest

from farseen import errors
from tests.helpers import Odd, odd_values

OF_PARTS = ["BadNumber", "BadRatio", "BadTable", "BadChart", "BadBody", "BadPicture", "BadAlbum", "BadTray",
            "BadSaying", "BadFact", "BadPaper", "BadDesk", "Misfit"]
MISSING = ["NoPin", "NoPicture", "NoFact", "NoName"]
FIELDS = {
    **{name: ["part"] for name in OF_PARTS}, **{name: ["value"] for name in MISSING}, "Missing": ["value"],
    "Twice": ["value"], "Impossible": ["paper"], "TooMany": ["what", "most"], "Nothing": [],
    "BadText": ["line", "item"], "BadLine": ["line", "error"]}


class ErrorsTest(unittest.TestCase):

    def test_all_are_there(self):
        own = {name for name, value in vars(errors).items() if isinstance(value, type)}
        self.assertEqual(own, set(FIELDS) | {"SeenError"})

    def test_bases(self):
        self.assertEqual(errors.SeenError.__bases__, (ValueError,))
        for name in FIELDS:
            base = errors.Missing if name in MISSING else errors.SeenError
            self.assertEqual(getattr(errors, name).__bases__, (base,), name)

    def test_fields_by_place_and_by_name(self):
        for name, fields in FIELDS.items():
            made = getattr(errors, name)
            values = [Odd() for _ in fields]
            for error in (made(*values), made(**dict(zip(fields, values)))):
                self.assertEqual(list(vars(error)), fields)
                for field, value in zip(fields, values):
                    self.assertIs(getattr(error, field), value)

    def test_any_values(self):
        for name, fields in FIELDS.items():
            for value in odd_values():
                error = getattr(errors, name)(*[value for _ in fields])
                self.assertTrue(all(getattr(error, field) is value for field in fields))

    def test_fields_are_asked_for(self):
        for name, fields in FIELDS.items():
            if fields:
                with self.assertRaises(TypeError):
                    getattr(errors, name)()

    def test_caught_as_value_error(self):
        with self.assertRaises(ValueError):
            raise errors.NoPin(3)
        with self.assertRaises(errors.Missing):
            raise errors.NoName("a")
        errors.SeenError()


if __name__ == "__main__":
    unittest.main()
