"""How tests ask for errors and for the conventions of [2]."""

import copy
import unittest


class Asking(unittest.TestCase):
    def assert_error(self, kind, fields, call, *arguments):
        """The call raises just this error; fields are told in order, and the very values."""
        try:
            call(*arguments)
        except Exception as why:
            self.assertEqual(why.__class__, kind)
            told = tuple(vars(why).values())
            self.assertEqual(len(told), len(fields))
            for value, wanted in zip(told, fields):
                if value is not wanted:
                    self.assertEqual(value.__class__, wanted.__class__)
                    self.assertEqual(value, wanted)
        else:
            self.fail(f"no {kind.__name__}")

    def assert_unchanged(self, call, *arguments):
        """What a call tells; it leaves its arguments as they were."""
        ahead = copy.deepcopy(arguments)
        told = call(*arguments)
        for before, behind in zip(ahead, arguments):
            if isinstance(before, (int, str, list, tuple)):
                self.assertEqual(before, behind)
            else:
                self.assertEqual(vars(before), vars(behind))
        return told

    def assert_only_itself_equal(self, make):
        """Objects of this kind are equal to themselves alone."""
        one, other = make(), make()
        self.assertTrue(one == one)
        self.assertFalse(one != one)
        self.assertFalse(one == other)
        self.assertTrue(one != other)
