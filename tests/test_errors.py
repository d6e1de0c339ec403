"""The refusals."""

import unittest

from peakroll import errors

NAMES = ["NoLadder", "NoMoment", "NoRoll", "NoNumber", "NoText", "NoSources", "NoTell", "NoTime", "TooMany", "NoLock",
         "NoBounds", "NoState", "NoFloor", "Gone", "Sealed", "NoRow", "NotOpen", "Held", "NoDeed"]


class Errors(unittest.TestCase):

    def test_there_are_nineteen(self):
        self.assertEqual(len(set(NAMES)), 19)
        for name in NAMES:
            self.assertTrue(issubclass(getattr(errors, name), Exception), name)

    def test_any_refusal_is_a_value_error(self):
        self.assertEqual(errors.PeakError.__bases__, (ValueError,))

    def test_each_stands_straight_under_peak_error(self):
        for name in NAMES:
            self.assertEqual(getattr(errors, name).__bases__, (errors.PeakError,), name)

    def test_none_is_another_one(self):
        for name in NAMES:
            made = getattr(errors, name)()
            self.assertIsInstance(made, errors.PeakError)
            self.assertIsInstance(made, ValueError)
            for other in NAMES:
                self.assertEqual(isinstance(made, getattr(errors, other)), name == other, (name, other))

    def test_made_of_nothing_and_of_a_text(self):
        for name in NAMES + ["PeakError"]:
            kind = getattr(errors, name)
            self.assertEqual(str(kind()), "")
            self.assertEqual(str(kind("so it is")), "so it is")
            for made in [kind(), kind("so it is")]:
                with self.assertRaises(kind):
                    raise made
                with self.assertRaises(errors.PeakError):
                    raise made


if __name__ == "__main__":
    unittest.main()
