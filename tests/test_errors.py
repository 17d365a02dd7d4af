"""Point 3: the error classes."""

import unittest

from quotefind import errors
from quotefind.errors import (
    BadBook, BadName, BadNear, BadSearch, BadTerms, BadWay, BadWord, BadYear,
    Full, HasLeft, NameTaken, NoBook, NoFinding, QuoteError, TooMany,
)

REFUSALS = [
    BadWord, BadBook, BadTerms, BadNear, BadWay, BadName, BadYear, NameTaken,
    Full, TooMany, NoBook, NoFinding, HasLeft, BadSearch,
]


class ErrorClasses(unittest.TestCase):

    def test_quote_error_stands_under_value_error(self):
        self.assertEqual(QuoteError.__bases__, (ValueError,))

    def test_each_refusal_stands_straight_under_quote_error(self):
        for refusal in REFUSALS:
            with self.subTest(refusal=refusal.__name__):
                self.assertEqual(refusal.__bases__, (QuoteError,))

    def test_no_refusal_stands_under_another(self):
        for refusal in REFUSALS:
            for other in REFUSALS:
                if refusal is not other:
                    with self.subTest(refusal=refusal.__name__, other=other.__name__):
                        self.assertFalse(issubclass(refusal, other))

    def test_fourteen_classes_of_their_own(self):
        self.assertEqual(len(set(REFUSALS)), 14)

    def test_each_class_bears_its_name(self):
        for refusal in REFUSALS + [QuoteError]:
            self.assertIs(getattr(errors, refusal.__name__), refusal)

    def test_each_is_raised_and_taken_as_a_quote_error(self):
        for refusal in REFUSALS:
            with self.subTest(refusal=refusal.__name__):
                with self.assertRaises(QuoteError) as taken:
                    raise refusal("words of its own")
                self.assertIs(type(taken.exception), refusal)


if __name__ == "__main__":
    unittest.main()
