import unittest

from pagepart import errors
from pagepart.errors import (
    NoNeeds, NoNumber, NoPage, NoPicture, NoPlace, NoRoom, NoRow, NoTexts, NoTree, PartError,
)

REFUSALS = [NoPage, NoPicture, NoPlace, NoTree, NoNeeds, NoTexts, NoRoom, NoRow, NoNumber]
NAMES = ["NoPage", "NoPicture", "NoPlace", "NoTree", "NoNeeds", "NoTexts", "NoRoom", "NoRow", "NoNumber"]


class Errors(unittest.TestCase):
    def test_any_refusal_is_a_value_error(self):
        self.assertTrue(issubclass(PartError, ValueError))
        self.assertEqual(PartError.__name__, "PartError")

    def test_each_stands_under_part_error(self):
        for refusal in REFUSALS:
            self.assertTrue(issubclass(refusal, PartError), refusal)
            self.assertTrue(issubclass(refusal, ValueError), refusal)
            self.assertIsNot(refusal, PartError)

    def test_none_stands_under_another(self):
        for one in REFUSALS:
            for other in REFUSALS:
                self.assertEqual(issubclass(one, other), one is other, (one, other))

    def test_names(self):
        self.assertEqual([refusal.__name__ for refusal in REFUSALS], NAMES)
        for name, refusal in zip(NAMES, REFUSALS):
            self.assertIs(getattr(errors, name), refusal)

    def test_each_is_raised_with_words_and_taken_by_name(self):
        for refusal in REFUSALS:
            for taken in (refusal, PartError, ValueError):
                with self.assertRaises(taken) as caught:
                    raise refusal("why")
                self.assertEqual(str(caught.exception), "why")


if __name__ == "__main__":
    unittest.main()
