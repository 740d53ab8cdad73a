"""Point 0.3: the error classes."""

import inspect
import unittest

from shownviews import errors

FIELDS = {"BadDisk": "part", "BadKept": "area", "BadStore": "index", "BadText": "place", "Barred": "bar",
          "Full": "area", "NotYet": "lacking", "TooMany": "most"}
WITHOUT = """BadDeed Down Here NoArea NoBook NoClosed NoDeed NoEdit NoFact NoFacts NoLetter NoLife NoLine NoLot NoMark
NoName NoNumber NoPattern NoPlan NoPrime NoRoot NoRow NoRows NoRule NoSchema NoShowing NoStore NoStretch NoTables
NoText NoThing NoView NotHere OtherPrime OtherSchema TooSmall Unsafe""".split()


class Errors(unittest.TestCase):
    def test_all_are_there_and_no_others(self):
        classes = [name for name, one in vars(errors).items() if inspect.isclass(one)]
        self.assertEqual(sorted(classes), sorted([*FIELDS, *WITHOUT, "ViewError"]))
        for name in classes:
            self.assertEqual(getattr(errors, name).__module__, "shownviews.errors")

    def test_they_derive_directly(self):
        self.assertEqual(errors.ViewError.__bases__, (ValueError,))
        for name in [*FIELDS, *WITHOUT]:
            self.assertEqual(getattr(errors, name).__bases__, (errors.ViewError,))

    def test_fields_are_kept_whatever_they_are(self):
        for name, field in FIELDS.items():
            for thing in (None, True, -3, 10 ** 5000, "x", [1], {}, (), object(), ValueError):
                error = getattr(errors, name)(thing)
                self.assertIs(getattr(error, field), thing)
                self.assertEqual(vars(error), {field: thing})

    def test_they_are_made_with_just_their_fields(self):
        for name in WITHOUT:
            self.assertEqual(vars(getattr(errors, name)()), {})
            self.assertRaises(TypeError, getattr(errors, name), 1)
        for name in FIELDS:
            self.assertRaises(TypeError, getattr(errors, name))
            self.assertRaises(TypeError, getattr(errors, name), 1, 2)
