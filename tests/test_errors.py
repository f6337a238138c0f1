"""The refusals: their classes and their fields."""

import unittest

from drumlay import errors

NAMES = ["BadProgram", "BadLaying", "BadFuel", "BadGoes", "BadPaper", "TooMany", "Over", "BadText"]


class Classes(unittest.TestCase):
    def test_drum_error_is_a_value_error(self):
        self.assertTrue(issubclass(errors.DrumError, ValueError))

    def test_each_is_straight_under_drum_error(self):
        for name in NAMES:
            self.assertEqual(getattr(errors, name).__bases__, (errors.DrumError,), name)

    def test_each_is_defined_in_its_file(self):
        for name in ["DrumError", *NAMES]:
            self.assertEqual(getattr(errors, name).__module__, "drumlay.errors", name)


class Fields(unittest.TestCase):
    def test_bad_program(self):
        error = errors.BadProgram(3, "shape")
        self.assertEqual((error.row, error.why), (3, "shape"))

    def test_bad_laying(self):
        error = errors.BadLaying("homes", 2)
        self.assertEqual((error.why, error.at), ("homes", 2))

    def test_bad_paper(self):
        self.assertEqual(errors.BadPaper(4).at, 4)

    def test_bad_text(self):
        self.assertEqual(errors.BadText(5).line, 5)

    def test_others_have_none(self):
        for name in ["BadFuel", "BadGoes", "TooMany", "Over"]:
            self.assertEqual(vars(getattr(errors, name)("why")), {}, name)


if __name__ == "__main__":
    unittest.main()
