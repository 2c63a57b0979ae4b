"""The error classes: names, base classes and attributes."""

import inspect
import unittest

from markring import errors
from markring.errors import MarkError

ATTRIBUTES = {
    "InvalidMarks": ["position"],
    "InvalidSteps": ["position"],
    "InvalidPins": [],
    "InvalidMove": ["position", "reason"],
    "NotReachable": [],
    "TooFar": [],
    "InvalidLimit": [],
    "InvalidIndex": [],
    "TooManyRings": [],
    "InvalidTimes": [],
    "Contradiction": [],
    "InvalidName": [],
    "UnknownName": [],
    "InvalidOperation": ["position"],
    "InvalidText": ["line"],
    "InvalidSign": [],
    "InvalidAmount": [],
}
VALUES = {"position": 7, "line": 11, "reason": "pinned"}


class ErrorsTest(unittest.TestCase):
    def test_base_class(self):
        self.assertEqual(MarkError.__bases__, (ValueError,))
        self.assertEqual(MarkError.__module__, "markring.errors")

    def test_exactly_the_listed_classes(self):
        found = [name for name, value in vars(errors).items() if inspect.isclass(value)]
        self.assertEqual(sorted(found), sorted(["MarkError", *ATTRIBUTES]))

    def test_direct_subclasses(self):
        for name in ATTRIBUTES:
            error = getattr(errors, name)
            self.assertEqual(error.__bases__, (MarkError,), name)
            self.assertEqual(error.__module__, "markring.errors", name)

    def test_attributes_are_set_at_creation(self):
        for name, attributes in ATTRIBUTES.items():
            error = getattr(errors, name)
            created = error(*[VALUES[attribute] for attribute in attributes])
            self.assertEqual(vars(created), {key: VALUES[key] for key in attributes}, name)

    def test_attributes_by_keyword(self):
        for name, attributes in ATTRIBUTES.items():
            error = getattr(errors, name)
            created = error(**{key: VALUES[key] for key in attributes})
            self.assertEqual(vars(created), {key: VALUES[key] for key in attributes}, name)

    def test_attributes_belong_to_each_object(self):
        first = errors.InvalidMove(0, "seat")
        second = errors.InvalidMove(4, "pinned")
        self.assertEqual((first.position, first.reason), (0, "seat"))
        self.assertEqual((second.position, second.reason), (4, "pinned"))

    def test_caught_by_the_base_class(self):
        for name, attributes in ATTRIBUTES.items():
            with self.assertRaises(MarkError):
                raise getattr(errors, name)(*[VALUES[key] for key in attributes])


if __name__ == "__main__":
    unittest.main()
