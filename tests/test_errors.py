"""errors.py: the classes, their base classes and their attributes."""

import unittest

from onlyviews import errors
from samples import ANY_VALUES

ATTRIBUTES = {
    "InvalidText": "row",
    "NotAllowed": "index",
    "NotFollowed": "index",
    "InvalidRow": "row",
    "UnknownName": "name",
}


class ErrorsTest(unittest.TestCase):

    def test_base_class(self):
        self.assertEqual(errors.ViewError.__bases__, (ValueError,))
        self.assertIsInstance(errors.ViewError("why"), ValueError)

    def test_direct_subclasses(self):
        for name in ATTRIBUTES:
            self.assertEqual(getattr(errors, name).__bases__, (errors.ViewError,), name)

    def test_they_are_all(self):
        found = [cls.__name__ for cls in errors.ViewError.__subclasses__()]
        self.assertEqual(sorted(found), sorted(ATTRIBUTES))

    def test_none_is_a_subclass_of_another(self):
        for one in ATTRIBUTES:
            for other in ATTRIBUTES:
                if one != other:
                    self.assertFalse(issubclass(getattr(errors, one), getattr(errors, other)))

    def test_defined_in_this_file(self):
        for name in ["ViewError", *ATTRIBUTES]:
            self.assertEqual(getattr(errors, name).__module__, "onlyviews.errors")

    def test_attributes_by_position_and_by_name(self):
        for name, attribute in ATTRIBUTES.items():
            cls = getattr(errors, name)
            for value in ANY_VALUES:
                self.assertIs(getattr(cls(value), attribute), value)
                self.assertIs(getattr(cls(**{attribute: value}), attribute), value)

    def test_each_object_has_its_own_value(self):
        first, second = errors.InvalidText(1), errors.InvalidText(2)
        self.assertEqual([first.row, second.row], [1, 2])

    def test_other_arguments_are_not_taken(self):
        for name, attribute in ATTRIBUTES.items():
            cls = getattr(errors, name)
            self.assertRaises(TypeError, cls)
            self.assertRaises(TypeError, cls, 1, 2)
            self.assertRaises(TypeError, cls, other=1)
            self.assertRaises(TypeError, cls, 1, **{attribute: 1})

    def test_raised_and_caught(self):
        for name, attribute in ATTRIBUTES.items():
            cls = getattr(errors, name)
            for base in (cls, errors.ViewError, ValueError):
                with self.assertRaises(base) as caught:
                    raise cls(7)
                self.assertEqual(getattr(caught.exception, attribute), 7)
                self.assertIsInstance(str(caught.exception), str)


if __name__ == "__main__":
    unittest.main()
