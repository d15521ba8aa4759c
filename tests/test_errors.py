"""linemix/errors.py: the errors, their arguments and attributes."""

import unittest

from linemix import errors

NAMED = ("BadNumber", "BadPlace", "BadFraction")
PLACED = (
    "BadSteps", "HasRing", "BadSet", "BadRow", "BadLine", "BadPair", "BadCounts", "BadLots", "BadRates", "BadMix",
    "BadNotes", "BadParts", "Missing",
)
ATTRIBUTES = {
    **{name: ("name",) for name in NAMED},
    **{name: ("place",) for name in PLACED},
    **{name: ("low", "high") for name in ("NotOpen", "AreOpen", "NotHeld")},
    **{name: ("x", "y") for name in ("Unfit", "Crossing")},
    "OtherSize": ("size",), "TooMany": ("number",), "BadText": ("line",),
    **{name: () for name in (
        "NoEnds", "NoPairs", "NotLevel", "NotForest", "NotAlike", "NoLines", "OtherTotal", "NothingBack",
    )},
}


class ErrorsTest(unittest.TestCase):
    def test_each_error_has_its_attributes(self):
        self.assertEqual(len(ATTRIBUTES), 32)
        for name, attributes in ATTRIBUTES.items():
            values = ["size"] if name in NAMED else [7, 9][:len(attributes)]
            error = getattr(errors, name)(*values)
            self.assertEqual(vars(error), dict(zip(attributes, values)), name)

    def test_each_error_takes_just_its_arguments(self):
        for name, attributes in ATTRIBUTES.items():
            if attributes:
                for many in (len(attributes) - 1, len(attributes) + 1):
                    with self.assertRaises(TypeError, msg=name):
                        getattr(errors, name)(*range(many))

    def test_all_derive_from_the_base_class_and_from_no_other_one(self):
        self.assertTrue(issubclass(errors.MixError, ValueError))
        classes = [getattr(errors, name) for name in ATTRIBUTES]
        for one in classes:
            self.assertTrue(issubclass(one, errors.MixError))
            self.assertIsNot(one, errors.MixError)
            for other in classes:
                self.assertEqual(issubclass(one, other), one is other)

    def test_the_values_are_kept_as_they_are(self):
        self.assertEqual(errors.BadPair(-2).place, -2)
        self.assertEqual(errors.TooMany(5000).number, 5000)
        self.assertEqual(errors.BadText(0).line, 0)
        error = errors.NotOpen(3, 1)
        self.assertEqual((error.low, error.high), (3, 1))
        error = errors.Unfit(3, 1)
        self.assertEqual((error.x, error.y), (3, 1))

    def test_they_are_caught_by_the_base_class_and_as_value_errors(self):
        for base in (errors.MixError, ValueError):
            with self.assertRaises(base):
                raise errors.HasRing(2)


if __name__ == "__main__":
    unittest.main()
