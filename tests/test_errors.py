import unittest

from placetale.errors import BadTale, BadText, NoDeed, TaleError, TooMany


class Errors(unittest.TestCase):
    def test_all_refusals_stand_straight_under_tale_error(self):
        self.assertEqual(TaleError.__bases__, (ValueError,))
        for refusal in (BadTale, BadText, NoDeed, TooMany):
            self.assertEqual(refusal.__bases__, (TaleError,))

    def test_refusals_have_the_names_told(self):
        names = [error.__name__ for error in (TaleError, BadTale, BadText, NoDeed, TooMany)]
        self.assertEqual(names, ["TaleError", "BadTale", "BadText", "NoDeed", "TooMany"])

    def test_bad_text_has_its_row(self):
        self.assertEqual(BadText(0).row, 0)
        with self.assertRaises(TaleError) as caught:
            raise BadText(7)
        self.assertEqual(caught.exception.row, 7)
        self.assertIn("7", str(caught.exception))


if __name__ == "__main__":
    unittest.main()
