"""takes and back: where points are taken, by hand; how the fractions are told; each refusal ahead of the next."""

import itertools
import unittest
from fractions import Fraction

from helper import SWAP, ask_rows, back, takes

SQUARE = [(0, 0), (2, 0), (2, 2), (0, 2)]
KITE = [(0, 0), (7, 1), (9, 8), (1, 5)]
LINED = [(0, 0), (1, 1), (2, 2), (0, 2)]
FARTHEST = [(0, 0), (50, 1), (49, 50), (1, 49)]
# To the square from here, u, v is taken to (2 u - v) by (4 - v) and 2 v by (4 - v); its sides meet at 2, 4.
# The way back takes u, v to (4 u + 2 v) by (2 + v) and 4 v by (2 + v).
TRAPEZE = [(0, 0), (4, 0), (3, 2), (1, 2)]
WRONG_NUMBERS = (-1, 51, -2147483648, 2147483647)
PAIRS = list(itertools.permutations((SQUARE, KITE, FARTHEST, TRAPEZE), 2))


def to_square(u, v):
    return ask_rows(TRAPEZE, SQUARE, takes(u, v))[0]


def from_square(u, v):
    return ask_rows(TRAPEZE, SQUARE, back(u, v))[0]


def may_be_asked_again(part):
    """Whether the point came out whole and from 0 to 50, so that it can be handed in."""
    return part[0] == 0 and part[2] == part[4] == 1 and 0 <= part[1] <= 50 and 0 <= part[3] <= 50


class Takes(unittest.TestCase):
    def test_by_hand(self):
        self.assertEqual(to_square(2, 1), [0, 1, 1, 2, 3])
        self.assertEqual(to_square(5, 3), [0, 7, 1, 6, 1])
        self.assertEqual(to_square(7, 1), [0, 13, 3, 2, 3])

    def test_below_0(self):
        self.assertEqual(to_square(0, 1), [0, -1, 3, 2, 3])
        self.assertEqual(to_square(0, 5), [0, 5, 1, -10, 1])
        self.assertEqual(to_square(50, 50), [0, -25, 23, -50, 23])
        self.assertEqual(to_square(50, 5), [0, -95, 1, -10, 1])

    def test_naught_is_0_by_1(self):
        self.assertEqual(to_square(0, 0), [0, 0, 1, 0, 1])
        self.assertEqual(to_square(5, 0), [0, 5, 2, 0, 1])
        self.assertEqual(to_square(25, 50), [0, 0, 1, -50, 23])

    def test_whole(self):
        self.assertEqual(to_square(50, 0), [0, 25, 1, 0, 1])
        self.assertEqual(to_square(50, 3), [0, 97, 1, 6, 1])

    def test_whole_by_the_least_square(self):
        # The numbers behind the fractions are as small as can be: the divisor comes out at just 1 or -1.
        least = [(0, 0), (1, 0), (0, 1), (1, 1)]
        turned = [(0, 0), (0, 1), (1, 0), (1, 1)]
        for row in (least, turned):
            self.assertEqual(ask_rows(least, row, takes(5, 5), back(7, 7)), [[0, 5, 1, 5, 1], [0, 7, 1, 7, 1]])
        self.assertEqual(ask_rows(least, turned, takes(5, 7), back(0, 9)), [[0, 7, 1, 5, 1], [0, 9, 1, 0, 1]])

    def test_beyond_all(self):
        for u in range(51):
            self.assertEqual(to_square(u, 4), [-6], u)

    def test_the_same_row_leaves_each_point(self):
        told = ask_rows(KITE, KITE, takes(50, 0), back(50, 0), takes(0, 50), back(13, 17))
        self.assertEqual(told, [[0, 50, 1, 0, 1], [0, 50, 1, 0, 1], [0, 0, 1, 50, 1], [0, 13, 1, 17, 1]])

    def test_further_points_do_not_matter(self):
        for rest in ([(9, 9)], [(0, 0), (1, 1)]):
            told = ask_rows(TRAPEZE + rest, SQUARE + rest, takes(2, 1), takes(2, 4), back(1, 1))
            self.assertEqual(told, [[0, 1, 1, 2, 3], [-6], [0, 2, 1, 4, 3]])


class Back(unittest.TestCase):
    def test_by_hand(self):
        self.assertEqual(from_square(1, 1), [0, 2, 1, 4, 3])
        self.assertEqual(from_square(5, 3), [0, 26, 5, 12, 5])
        self.assertEqual(from_square(0, 0), [0, 0, 1, 0, 1])
        self.assertEqual(from_square(7, 0), [0, 14, 1, 0, 1])
        self.assertEqual(from_square(50, 50), [0, 75, 13, 50, 13])

    def test_below_0_and_beyond_all(self):
        told = ask_rows(SQUARE, TRAPEZE, back(0, 1), back(50, 50), back(2, 4), back(0, 4), back(50, 4))
        self.assertEqual(told, [[0, -1, 3, 2, 3], [0, -25, 23, -50, 23], [-6], [-6], [-6]])

    def test_is_takes_of_the_rows_exchanged(self):
        for first, second in PAIRS:
            for point in ((3, 4), (0, 50), (50, 50)):
                told = ask_rows(first, second, takes(*point), back(*point), SWAP, takes(*point), back(*point))
                self.assertEqual([told[0], told[1]], [told[4], told[3]], (first, second, point))

    def test_is_the_way_back(self):
        tried = 0
        points = list(itertools.product(range(13), repeat=2))
        for first, second in PAIRS:
            for there, again in ((takes, back), (back, takes)):
                told = ask_rows(first, second, *[there(*point) for point in points])
                for point, part in zip(points, told):
                    if may_be_asked_again(part):
                        tried += 1
                        way = ask_rows(first, second, again(part[1], part[3]))
                        self.assertEqual(way, [[0, point[0], 1, point[1], 1]], (first, second, point))
        self.assertGreater(tried, 60)


class Views(unittest.TestCase):
    def test_the_first_four_go_to_the_first_four(self):
        for first, second in PAIRS:
            for one, other in zip(first, second):
                told = ask_rows(first, second, takes(*one), back(*other))
                self.assertEqual(told, [[0, other[0], 1, other[1], 1], [0, one[0], 1, one[1], 1]])

    def test_lines_are_shown_as_lines(self):
        on_one = [(3, 10), (5, 14), (20, 44)]
        for first, second in PAIRS:
            for call in (takes, back):
                parts = ask_rows(first, second, *[call(*point) for point in on_one])
                if [-6] in parts:
                    continue
                a, b, c = [(Fraction(p[1], p[2]), Fraction(p[3], p[4])) for p in parts]
                self.assertEqual((b[0] - a[0]) * (c[1] - a[1]), (b[1] - a[1]) * (c[0] - a[0]))


class Refusals(unittest.TestCase):
    def test_a_number_is_not_from_0_to_50(self):
        for wrong in WRONG_NUMBERS:
            for right in (0, 4, 50, wrong):
                for call in (takes, back):
                    told = ask_rows(TRAPEZE, SQUARE, call(wrong, right), call(right, wrong))
                    self.assertEqual(told, [[-22], [-22]], (wrong, right))

    def test_a_wrong_number_is_told_ahead_of_not_good(self):
        for first, second in ((LINED, SQUARE), (SQUARE, LINED), (LINED, LINED)):
            for wrong in WRONG_NUMBERS:
                for call in (takes, back):
                    told = ask_rows(first, second, call(wrong, 1), call(1, wrong), call(wrong, wrong))
                    self.assertEqual(told, [[-22]] * 3, (first, second, wrong))

    def test_either_row_is_not_good(self):
        for first, second in ((LINED, SQUARE), (SQUARE, LINED), (LINED, LINED)):
            told = ask_rows(first, second, takes(0, 0), takes(2, 4), back(50, 50), back(1, 1))
            self.assertEqual(told, [[-16]] * 4, (first, second))

    def test_0_and_50_are_taken(self):
        for point in ((0, 0), (0, 50), (50, 0), (50, 50)):
            told = ask_rows(SQUARE, SQUARE, takes(*point), back(*point))
            self.assertEqual(told, [[0, point[0], 1, point[1], 1]] * 2)


if __name__ == "__main__":
    unittest.main()
