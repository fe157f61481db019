"""faults.py: the classes, their base classes and their attributes."""

import unittest

from onlyviews import errors, faults
from samples import ANY_VALUES

BARE = ["NotAnswered", "InvalidRule", "NotShown", "NotOffered"]
ALL = [*BARE, "NoRule"]


class FaultsTest(unittest.TestCase):

    def test_base_class(self):
        self.assertEqual(faults.AnswerError.__bases__, (ValueError,))
        self.assertIsInstance(faults.AnswerError("why"), ValueError)

    def test_direct_subclasses(self):
        for name in ALL:
            self.assertEqual(getattr(faults, name).__bases__, (faults.AnswerError,), name)

    def test_they_are_all(self):
        found = [cls.__name__ for cls in faults.AnswerError.__subclasses__()]
        self.assertEqual(sorted(found), sorted(ALL))

    def test_none_is_a_subclass_of_another(self):
        for one in ALL:
            self.assertFalse(issubclass(getattr(faults, one), errors.ViewError))
            for other in ALL:
                if one != other:
                    self.assertFalse(issubclass(getattr(faults, one), getattr(faults, other)))

    def test_defined_in_this_file(self):
        for name in ["AnswerError", *ALL]:
            self.assertEqual(getattr(faults, name).__module__, "onlyviews.faults")

    def test_four_take_nothing(self):
        for name in BARE:
            cls = getattr(faults, name)
            self.assertIsInstance(cls(), cls)
            self.assertRaises(TypeError, cls, 1)
            self.assertRaises(TypeError, cls, "why")
            self.assertRaises(TypeError, cls, index=1)

    def test_no_rule_has_its_index(self):
        for value in ANY_VALUES:
            self.assertIs(faults.NoRule(value).index, value)
            self.assertIs(faults.NoRule(index=value).index, value)
        self.assertRaises(TypeError, faults.NoRule)
        self.assertRaises(TypeError, faults.NoRule, 1, 2)
        self.assertRaises(TypeError, faults.NoRule, row=1)

    def test_raised_and_caught(self):
        for name in BARE:
            cls = getattr(faults, name)
            for base in (cls, faults.AnswerError, ValueError):
                with self.assertRaises(base) as caught:
                    raise cls()
                self.assertIsInstance(str(caught.exception), str)
        with self.assertRaises(faults.AnswerError) as caught:
            raise faults.NoRule(2)
        self.assertEqual(caught.exception.index, 2)


if __name__ == "__main__":
    unittest.main()
