import unittest

from undocover import errors

NAMES = ["BadTable", "BadChoice", "BadNumber", "BadOrder", "BadPrices", "BadBars", "Closed", "Nothing", "NoCover",
         "TooGreat"]


class Errors(unittest.TestCase):
    def test_cover_error_is_a_value_error(self):
        self.assertEqual(errors.CoverError.__bases__, (ValueError,))

    def test_the_others_stand_straight_under_it(self):
        for name in NAMES:
            with self.subTest(name):
                self.assertEqual(getattr(errors, name).__bases__, (errors.CoverError,))

    def test_each_can_be_raised_and_caught_by_any_of_its_names(self):
        for name in NAMES:
            kind = getattr(errors, name)
            for caught in (kind, errors.CoverError, ValueError):
                with self.assertRaises(caught):
                    raise kind("why")


if __name__ == "__main__":
    unittest.main()
