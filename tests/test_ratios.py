"""ratios: what they are by hand, how fractions are told, and each refusal ahead of the next."""

import unittest

from helper import ask_rows, ratios

SQUARE = [(0, 0), (2, 0), (2, 2), (0, 2)]
KITE = [(0, 0), (7, 1), (9, 8), (1, 5)]
LINED = [(0, 0), (1, 1), (2, 2), (0, 2)]
MOST = 2147483647


def by_square(fifth):
    """The ratios of a fifth by the square: the fourth is the first less the second and the third.

    So u, v, which is (1 - u/2) firsts, (u/2 - v/2) seconds and (v/2) thirds, has 2 - u, v - u and v of them.
    """
    return ask_rows(SQUARE + [fifth], KITE + [(0, 0)], ratios(0, 4))[0]


class Ratios(unittest.TestCase):
    def test_by_hand(self):
        self.assertEqual(by_square((1, 1)), [0, 1, 1, 0, 1])
        self.assertEqual(by_square((7, 3)), [0, -5, 3, -4, 3])
        self.assertEqual(by_square((0, 8)), [0, 1, 4, 1, 1])
        self.assertEqual(by_square((1, 50)), [0, 1, 50, 49, 50])

    def test_nothing_in_common_and_below_above_0(self):
        self.assertEqual(by_square((10, 4)), [0, -2, 1, -3, 2])
        self.assertEqual(by_square((50, 6)), [0, -8, 1, -22, 3])
        self.assertEqual(by_square((8, 32)), [0, -3, 16, 3, 4])

    def test_minus_is_told_above(self):
        # Here the determinants behind the third come out below 0 as well as above it.
        turned = [SQUARE[0], SQUARE[3], SQUARE[2], SQUARE[1]]
        told = ask_rows(SQUARE + [(7, 3)], turned + [(3, 7)], ratios(0, 4), ratios(1, 4))
        self.assertEqual(told, [[0, -5, 3, -4, 3]] * 2)

    def test_whole_by_the_least_square(self):
        # The numbers behind the fractions are as small as can be: the third comes out at just 1 or -1.
        least = [(0, 0), (1, 0), (0, 1), (1, 1)]
        turned = [(0, 0), (0, 1), (1, 0), (1, 1)]
        told = ask_rows(least + [(2, 1)], turned + [(1, 2)], ratios(0, 4), ratios(1, 4))
        self.assertEqual(told, [[0, 2, 1, 2, 1]] * 2)

    def test_naught_is_0_by_1(self):
        self.assertEqual(by_square((2, 2)), [0, 0, 1, 0, 1])
        self.assertEqual(by_square((2, 7)), [0, 0, 1, 5, 7])
        self.assertEqual(by_square((7, 7)), [0, -5, 7, 0, 1])

    def test_the_fourth_again_is_all_three_together(self):
        told = ask_rows(SQUARE + [(0, 2)], KITE + [(1, 5)], ratios(0, 4), ratios(1, 4))
        self.assertEqual(told, [[0, 1, 1, 1, 1]] * 2)

    def test_each_row_and_each_further_point(self):
        first = SQUARE + [(7, 3), (1, 50)]
        second = SQUARE + [(0, 8), (10, 4)]
        told = ask_rows(first, second, ratios(0, 4), ratios(0, 5), ratios(1, 4), ratios(1, 5))
        self.assertEqual(told, [[0, -5, 3, -4, 3], [0, 1, 50, 49, 50], [0, 1, 4, 1, 1], [0, -2, 1, -3, 2]])

    def test_the_third_not_at_all(self):
        for fifth in ((0, 0), (1, 0), (2, 0), (50, 0)):
            self.assertEqual(by_square(fifth), [-6], fifth)


class Refusals(unittest.TestCase):
    def test_no_such_row(self):
        for k in (2, 3, MOST):
            for i in (0, 3, 4, 5, MOST):
                self.assertEqual(ask_rows(SQUARE + [(7, 3)], LINED + [(7, 3)], ratios(k, i)), [[-22]], (k, i))

    def test_no_such_point_or_one_of_the_first_four(self):
        for k in (0, 1):
            for i in (0, 1, 2, 3, 5, 6, MOST):
                self.assertEqual(ask_rows(SQUARE + [(7, 3)], KITE + [(1, 1)], ratios(k, i)), [[-2]], (k, i))
            for i in (0, 3, 4, 5, MOST):
                self.assertEqual(ask_rows(SQUARE, KITE, ratios(k, i)), [[-2]], (k, i))
            self.assertEqual(ask_rows(SQUARE + [(7, 3)] * 2, SQUARE + [(7, 3)] * 2, ratios(k, 6)), [[-2]])

    def test_no_such_point_is_told_ahead_of_not_good(self):
        for i in (0, 3, 5, MOST):
            self.assertEqual(ask_rows(LINED + [(7, 3)], KITE + [(1, 1)], ratios(0, i)), [[-2]], i)

    def test_only_that_row_must_be_good(self):
        told = ask_rows(LINED + [(7, 3)], SQUARE + [(7, 3)], ratios(0, 4), ratios(1, 4))
        self.assertEqual(told, [[-16], [0, -5, 3, -4, 3]])
        told = ask_rows(SQUARE + [(7, 3)], LINED + [(7, 3)], ratios(0, 4), ratios(1, 4))
        self.assertEqual(told, [[0, -5, 3, -4, 3], [-16]])

    def test_not_good_is_told_ahead_of_the_third_not_at_all(self):
        self.assertEqual(ask_rows(LINED + [(3, 3)], SQUARE + [(1, 0)], ratios(0, 4)), [[-16]])


if __name__ == "__main__":
    unittest.main()
