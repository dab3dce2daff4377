"""Tests of onceonly.errors: the classes that the interface lists, and their attributes."""

import unittest

from onceonly import errors
from onceonly.errors import OnceError

ATTRIBUTES = {
    "InvalidSystem": ("part", "index"), "UnknownService": (), "InvalidWindows": ("index",),
    "InvalidTable": ("row", "column"), "InvalidLog": ("index",), "ImpossibleLog": ("service",),
    "InvalidSchedule": ("index",), "InvalidTimes": ("index",), "InvalidGap": (), "TooManyAttempts": (),
    "InvalidMessage": (), "TooLate": (), "InvalidTime": (), "InvalidCall": (), "UnknownCall": (),
    "TooManyCalls": (), "TooManyServices": (), "ServiceInUse": (), "InvalidOperation": ("index",),
    "InvalidName": (), "UnknownCheckpoint": (), "ScriptError": ("row",), "ExecutionFailed": ("row",),
    "StepLimitExceeded": (), "NotationError": ("row", "word"), "InvalidCount": (), "DecodeError": ("offset",),
}


class ErrorsTest(unittest.TestCase):
    def test_base_class(self):
        self.assertEqual(OnceError.__bases__, (ValueError,))

    def test_direct_subclasses(self):
        for name in ATTRIBUTES:
            with self.subTest(name=name):
                self.assertEqual(getattr(errors, name).__bases__, (OnceError,))

    def test_defined_in_this_file(self):
        for name in ATTRIBUTES:
            with self.subTest(name=name):
                self.assertEqual(getattr(errors, name).__module__, "onceonly.errors")
                self.assertEqual(getattr(errors, name).__name__, name)

    def test_attributes_of_each_object(self):
        for name, attributes in ATTRIBUTES.items():
            with self.subTest(name=name):
                error = getattr(errors, name)(*range(3, 3 + len(attributes)))
                self.assertEqual(vars(error), dict(zip(attributes, (3, 4))))

    def test_caught_as_value_error(self):
        for name, attributes in ATTRIBUTES.items():
            with self.subTest(name=name), self.assertRaises(ValueError):
                raise getattr(errors, name)(*range(len(attributes)))

    def test_nothing_else(self):
        found = {name for name, value in vars(errors).items() if isinstance(value, type)}
        self.assertEqual(found, set(ATTRIBUTES) | {"OnceError"})


if __name__ == "__main__":
    unittest.main()
