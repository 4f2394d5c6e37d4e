"""Points 1 and 9, for what check_pieces(out, pieces, bad) tells."""

import inspect
import unittest

from shelfbook.deals import check_pieces
from shelfbook.errors import NoMany, ShopError, TooMany

# The largest and the smallest whole number of sixty-one figures.
LARGE = 10 ** 61 - 1
SMALL = 10 ** 60


class CheckPiecesTest(unittest.TestCase):

    def assert_taken(self, *rows):
        for out, pieces, bad in rows:
            with self.subTest(out=out, pieces=pieces, bad=bad):
                self.assertIsNone(check_pieces(out, pieces, bad))

    def assert_refused(self, refusal, *rows):
        for out, pieces, bad in rows:
            with self.subTest(out=out, pieces=pieces, bad=bad):
                with self.assertRaises(ShopError) as taken:
                    check_pieces(out, pieces, bad)
                self.assertIs(type(taken.exception), refusal)

    def test_names_of_the_arguments(self):
        self.assertEqual(list(inspect.signature(check_pieces).parameters),
                         ["out", "pieces", "bad"])
        self.assertIsNone(check_pieces(bad=1, pieces=2, out=3))

    def test_ordinary_deliveries_and_returns(self):
        self.assert_taken(
            (10, 4, 0),
            (10, 4, 3),
            (10, 4, 4),
            (10, 9, 5),
            (250, 120, 17),
        )

    def test_edges_of_pieces(self):
        self.assert_refused(NoMany, (5, 0, 0), (5, -1, 0), (5, -7, 0))
        self.assert_taken((5, 1, 0), (5, 5, 0), (1, 1, 0))
        self.assert_refused(TooMany, (5, 6, 0), (1, 2, 0), (5, 600, 0))

    def test_edges_of_bad(self):
        self.assert_refused(NoMany, (5, 3, -1), (5, 3, -100))
        self.assert_taken((5, 3, 0), (5, 3, 3), (5, 1, 1), (5, 5, 5))
        self.assert_refused(NoMany, (5, 3, 4), (5, 1, 2), (5, 5, 6), (5, 3, 100))

    def test_bad_pieces_count_against_what_is_out(self):
        self.assert_refused(TooMany, (5, 6, 1), (5, 6, 5), (5, 6, 6), (5, 8, 3))

    def test_nothing_is_out(self):
        self.assert_refused(TooMany, (0, 1, 0), (0, 1, 1), (0, 3, 2))
        self.assert_refused(NoMany, (0, 0, 0), (0, -1, 0), (0, 1, 2), (0, 1, -1))

    def test_pieces_below_nought_with_bad_below_nought(self):
        self.assert_refused(NoMany, (5, -2, -2), (5, -2, -3), (5, -2, -1), (0, -1, -1))

    def test_no_pieces_with_bad_ones(self):
        self.assert_refused(NoMany, (5, 0, 1), (5, 0, -1))

    def test_no_many_goes_ahead_of_too_many(self):
        self.assert_refused(NoMany, (5, 6, 7), (5, 6, -1), (0, 1, -1), (0, 2, 3), (5, 100, 101))

    def test_every_small_case(self):
        for out in range(0, 6):
            fitting = [(pieces, bad) for pieces in range(1, out + 1) for bad in range(0, pieces + 1)]
            surplus = [(pieces, bad) for pieces in range(out + 1, 9) for bad in range(0, pieces + 1)]
            senseless = [(pieces, bad) for pieces in range(-3, 9) for bad in range(-3, 12)
                         if (pieces, bad) not in fitting and (pieces, bad) not in surplus]
            self.assert_taken(*[(out, pieces, bad) for pieces, bad in fitting])
            self.assert_refused(TooMany, *[(out, pieces, bad) for pieces, bad in surplus])
            self.assert_refused(NoMany, *[(out, pieces, bad) for pieces, bad in senseless])

    def test_numbers_of_sixty_one_figures(self):
        self.assertEqual((len(str(LARGE)), len(str(SMALL))), (61, 61))
        for number in (LARGE, SMALL):
            self.assert_taken(
                (number, number, 0),
                (number, number, number),
                (number, number - 1, number - 1),
                (number, 1, 1),
            )
            self.assert_refused(
                TooMany,
                (number - 1, number, 0),
                (number - 1, number, number),
                (0, number, 0),
            )
            self.assert_refused(
                NoMany,
                (number, number - 1, number),
                (number, -number, 0),
                (number, number, -number),
                (number, 1, number),
                (number - 1, number, number + 1),
            )

    def test_numbers_somewhat_beyond_sixty_one_figures(self):
        beyond = 10 ** 70
        self.assert_taken((beyond, beyond, beyond), (beyond, beyond - 1, 0))
        self.assert_refused(TooMany, (beyond, beyond + 1, 0))
        self.assert_refused(NoMany, (beyond, beyond, beyond + 1))

    def test_nothing_is_kept_from_one_call_to_the_next(self):
        for _ in range(3):
            self.assert_taken((5, 5, 2))
            self.assert_refused(TooMany, (5, 6, 2))
            self.assert_refused(NoMany, (5, 5, 6))


if __name__ == "__main__":
    unittest.main()
