"""The interface's section on errors."""

import unittest

import sungbyturns.errors
from sungbyturns.errors import SongError

ATTRIBUTES = {
    "BadBook": ("refrain", "verse"),
    "BadTurns": (),
    "BadState": (),
    "BadCount": (),
    "BadRefrain": (),
    "BadCertificate": (),
    "TooManyWords": (),
    "TooManyCandidates": (),
    "RefrainBusy": (),
    "BadBranch": ("name",),
    "NoBranch": ("name",),
    "BadOperation": ("index",),
    "BadSource": ("row", "column"),
    "BadProgram": ("reason", "row", "column"),
    "BadText": ("row",),
    "BadData": ("offset",),
    "BadRecord": ("index",),
}


class ErrorsTest(unittest.TestCase):
    def test_base_class(self):
        self.assertTrue(issubclass(SongError, ValueError))
        self.assertEqual(SongError.__module__, "sungbyturns.errors")

    def test_classes_and_attributes(self):
        for name, attributes in ATTRIBUTES.items():
            with self.subTest(name=name):
                kind = getattr(sungbyturns.errors, name)
                self.assertEqual(kind.__module__, "sungbyturns.errors")
                self.assertEqual(kind.__bases__, (SongError,))
                values = list(range(5, 5 + len(attributes)))
                told = dict(zip(attributes, values))
                self.assertEqual(vars(kind(*values)), told)
                self.assertEqual(vars(kind(**told)), told)

    def test_no_class_is_under_another_one(self):
        kinds = [getattr(sungbyturns.errors, name) for name in ATTRIBUTES]
        for kind in kinds:
            self.assertEqual([other for other in kinds if issubclass(kind, other)], [kind])


if __name__ == "__main__":
    unittest.main()
