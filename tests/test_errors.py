"""Point 9: the error classes."""

import itertools
import unittest

from shelfbook.errors import (
    Broke, NoKind, NoMany, NoOrder, NoSale, ShopError, TooFew, TooMany)

REFUSALS = (NoKind, NoOrder, NoSale, NoMany, TooMany, TooFew, Broke)
NAMES = ("NoKind", "NoOrder", "NoSale", "NoMany", "TooMany", "TooFew", "Broke")


class ErrorsTest(unittest.TestCase):

    def test_shop_error_stands_under_value_error(self):
        self.assertEqual(ShopError.__bases__, (ValueError,))
        with self.assertRaises(ValueError):
            raise ShopError("refused")

    def test_each_refusal_stands_straight_under_shop_error(self):
        for refusal in REFUSALS:
            with self.subTest(refusal=refusal):
                self.assertEqual(refusal.__bases__, (ShopError,))

    def test_each_refusal_bears_its_name(self):
        self.assertEqual(tuple(refusal.__name__ for refusal in REFUSALS), NAMES)
        self.assertEqual(ShopError.__name__, "ShopError")

    def test_taking_shop_error_takes_each_refusal(self):
        for refusal in REFUSALS:
            with self.subTest(refusal=refusal):
                with self.assertRaises(ShopError) as taken:
                    raise refusal("refused")
                self.assertIs(type(taken.exception), refusal)

    def test_no_refusal_is_taken_as_another(self):
        for raised, other in itertools.permutations(REFUSALS, 2):
            with self.subTest(raised=raised, other=other):
                self.assertFalse(issubclass(raised, other))

    def test_no_two_refusals_are_one_class(self):
        self.assertEqual(len(set(REFUSALS)), 7)
        self.assertNotIn(ShopError, REFUSALS)

    def test_a_refusal_can_be_made_without_words(self):
        for refusal in REFUSALS + (ShopError,):
            with self.subTest(refusal=refusal):
                self.assertIsInstance(refusal(), ValueError)


if __name__ == "__main__":
    unittest.main()
