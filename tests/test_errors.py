"""The errors of the interface."""

import unittest

from truealmanac import errors

CODES = ["DateError", "LunarError", "ZoneError", "TableError", "FractionError"]
PLACES = ["PageError", "SkyTextError", "PatternError", "PaperError", "BookError"]


class Errors(unittest.TestCase):
    def test_base_class(self):
        self.assertEqual(errors.AlmanacError.__bases__, (ValueError,))
        for name in ["SkyError", *CODES, *PLACES]:
            self.assertEqual(getattr(errors, name).__bases__, (errors.AlmanacError,), name)

    def test_fields(self):
        error = errors.SkyError("body", "mars")
        self.assertEqual((error.code, error.name), ("body", "mars"))
        for name in CODES:
            self.assertEqual(getattr(errors, name)("zero").code, "zero")
        for name in PLACES:
            self.assertEqual(getattr(errors, name)(7).at, 7)

    def test_caught_by_the_base_class(self):
        for name in [*CODES, *PLACES]:
            with self.assertRaises(errors.AlmanacError):
                raise getattr(errors, name)("day")


if __name__ == "__main__":
    unittest.main()
