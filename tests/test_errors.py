"""[1], [2] and the errors of the interface."""

import unittest

from sparkboard import errors
from tests.plain import Strange

FIELDS = {
    "BadText": ("column",),
    "BadLine": ("line", "column"),
    "BadNumber": ("what", "number"),
    "BadRow": ("row",),
    "BadName": ("name",),
    "BadCell": ("cell",),
    "BadGate": ("index",),
    "BadTile": ("stage", "tile"),
    "NoName": ("name",),
    "TakenName": ("name",),
    "Unlike": ("what",),
    "NotKept": ("promise", "witness"),
    "NothingToUndo": (),
    "NothingToRedo": (),
}


class Errors(unittest.TestCase):
    def test_there_are_just_these(self):
        own = {name for name, value in vars(errors).items() if isinstance(value, type)}
        self.assertEqual(own, set(FIELDS) | {"SparkError"})

    def test_each_derives_directly_from_the_one(self):
        self.assertEqual(errors.SparkError.__bases__, (ValueError,))
        for name in FIELDS:
            self.assertEqual(getattr(errors, name).__bases__, (errors.SparkError,), name)

    def test_each_is_defined_in_its_file(self):
        for name in FIELDS:
            self.assertEqual(getattr(errors, name).__module__, "sparkboard.errors")

    def test_fields_in_order_just_as_they_are(self):
        for name, fields in FIELDS.items():
            values = [[1, [number]] for number in range(len(fields))]
            error = getattr(errors, name)(*values)
            self.assertEqual(set(vars(error)), set(fields), name)
            for field, value in zip(fields, values):
                self.assertIs(getattr(error, field), value, name)

    def test_fields_of_any_kind(self):
        for value in (None, True, (), [], "a", b"a", 10 ** 5000, Strange()):
            for name, fields in FIELDS.items():
                error = getattr(errors, name)(*[value for _ in fields])
                for field in fields:
                    self.assertIs(getattr(error, field), value)

    def test_too_many_or_too_few_fields(self):
        for name, fields in FIELDS.items():
            with self.assertRaises(TypeError):
                getattr(errors, name)(*range(len(fields) + 1))
            if fields:
                with self.assertRaises(TypeError):
                    getattr(errors, name)(*range(len(fields) - 1))

    def test_equal_to_itself_alone(self):
        for name, fields in FIELDS.items():
            one = getattr(errors, name)(*[1 for _ in fields])
            other = getattr(errors, name)(*[1 for _ in fields])
            self.assertTrue(one == one)
            self.assertFalse(one == other)

    def test_they_are_raised_and_caught(self):
        for name, fields in FIELDS.items():
            kind = getattr(errors, name)
            for caught in (kind, errors.SparkError, ValueError):
                with self.assertRaises(caught):
                    raise kind(*[1 for _ in fields])


if __name__ == "__main__":
    unittest.main()
