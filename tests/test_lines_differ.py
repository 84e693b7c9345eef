"""lines and differ: ordinary rows, the document's corners, and refusals."""

import itertools
import unittest

from helper import ALIKE, DIFFER, GENERAL, ask_rows, lines, seen

SQUARE = [(0, 0), (2, 0), (2, 2), (0, 2)]
KITE = [(0, 0), (7, 1), (9, 8), (1, 5)]
LINED = [(0, 0), (1, 1), (2, 2), (0, 2)]
CENTRED = SQUARE + [(1, 1)]
HEXAGON = [(0, 0), (1, 0), (2, 1), (2, 2), (1, 2), (0, 1)]
FOUR_LINES = [(0, 6), (6, 0), (0, 4), (8, 0), (0, 0), (4, 2)]
# Shows u, v at 12 u, 12 v by u + v + 1.
TILTED = [[12, 0, 0], [0, 12, 0], [1, 1, 1]]
PLAIN = [(0, 0), (1, 0), (0, 1), (1, 1), (2, 1), (1, 2)]
MOST = 2147483647


class Lines(unittest.TestCase):
    def test_none(self):
        self.assertEqual(ask_rows(SQUARE, KITE, lines(0), lines(1)), [[0], [0]])
        self.assertEqual(ask_rows(HEXAGON, HEXAGON, lines(0), lines(1)), [[0], [0]])

    def test_each_row_by_itself(self):
        told = ask_rows(CENTRED, HEXAGON[:5], lines(0), lines(1))
        self.assertEqual(told, [[2, 0, 2, 4, 1, 3, 4], [0]])
        told = ask_rows(HEXAGON[:5], CENTRED, lines(0), lines(1))
        self.assertEqual(told, [[0], [2, 0, 2, 4, 1, 3, 4]])

    def test_several_in_rising_order(self):
        told = ask_rows(FOUR_LINES, FOUR_LINES, lines(0))
        self.assertEqual(told, [[4, 0, 1, 5, 0, 2, 4, 1, 3, 4, 2, 3, 5]])
        row = [(5, 5), (5, 6), (9, 9), (5, 7), (13, 13), (5, 8)]
        told = ask_rows(row, row, lines(1))
        self.assertEqual(told, [[5, 0, 1, 3, 0, 1, 5, 0, 2, 4, 0, 3, 5, 1, 3, 5]])

    def test_each_three(self):
        for a, b, c in itertools.combinations(range(6), 3):
            row = [(10, 0), (30, 1), (44, 15), (41, 40), (20, 49), (1, 23)]
            row[a], row[b], row[c] = (7, 8), (16, 20), (25, 32)
            self.assertEqual(ask_rows(row, HEXAGON, lines(0)), [[1, a, b, c]])

    def test_all_threes(self):
        for row in ([(3, 3)] * 6, [(u, 50 - u) for u in (0, 9, 7, 50, 1, 30)], [(0, v) for v in range(6)]):
            threes = [number for three in itertools.combinations(range(6), 3) for number in three]
            self.assertEqual(ask_rows(row, KITE + [(3, 4), (5, 5)], lines(0)), [[20] + threes])

    def test_the_same_point_twice(self):
        told = ask_rows(KITE + [(7, 1)], SQUARE + [(0, 2)], lines(0), lines(1))
        self.assertEqual(told, [[3, 0, 1, 4, 1, 2, 4, 1, 3, 4], [3, 0, 3, 4, 1, 3, 4, 2, 3, 4]])

    def test_near_a_line_is_not_on_it(self):
        row = [(0, 0), (49, 48), (50, 49), (0, 50)]
        self.assertEqual(ask_rows(row, row, lines(0)), [[0]])

    def test_a_row_that_is_not_good(self):
        told = ask_rows(LINED, SQUARE, lines(0), lines(1))
        self.assertEqual(told, [[1, 0, 1, 2], [0]])
        told = ask_rows(SQUARE, LINED, lines(0), lines(1))
        self.assertEqual(told, [[0], [1, 0, 1, 2]])
        self.assertEqual(ask_rows([(1, 1)] * 4, SQUARE, lines(0)), [[4, 0, 1, 2, 0, 1, 3, 0, 2, 3, 1, 2, 3]])

    def test_no_such_row(self):
        for k in (2, 3, MOST):
            self.assertEqual(ask_rows(SQUARE, KITE, lines(k)), [[-22]])
            self.assertEqual(ask_rows(LINED, LINED, lines(k)), [[-22]])

    def test_general_is_told_by_it(self):
        for first, second in itertools.product((SQUARE, LINED, KITE), repeat=2):
            told = ask_rows(first, second, lines(0), lines(1), GENERAL)
            self.assertEqual(told[2], [(told[0] == [0]) * 1 + (told[1] == [0]) * 2])


class Differ(unittest.TestCase):
    def test_alike(self):
        picture = seen(TILTED, PLAIN)
        for size in (4, 5, 6):
            self.assertEqual(ask_rows(PLAIN[:size], picture[:size], DIFFER, ALIKE), [[-33], [1]])
            self.assertEqual(ask_rows(picture[:size], PLAIN[:size], DIFFER, ALIKE), [[-33], [1]])

    def test_four_points_never_differ(self):
        for four in itertools.permutations(KITE):
            self.assertEqual(ask_rows(SQUARE, list(four), DIFFER), [[-33]])

    def test_at_the_fifth_and_at_the_sixth(self):
        for places, wanted in (((4,), 4), ((5,), 5), ((4, 5), 4)):
            for du, dv in ((1, 0), (0, 1), (-1, 0), (0, -1), (1, 1)):
                picture = seen(TILTED, PLAIN)
                for at in places:
                    picture[at] = (picture[at][0] + du, picture[at][1] + dv)
                self.assertEqual(ask_rows(PLAIN, picture, DIFFER), [[wanted]], (places, du, dv))
                self.assertEqual(ask_rows(picture, PLAIN, DIFFER), [[wanted]], (places, du, dv))

    def test_five_points(self):
        self.assertEqual(ask_rows(CENTRED, HEXAGON[:5], DIFFER), [[4]])

    def test_rows_that_fit_but_not_as_told(self):
        second = [(0, 0), (2, 2), (2, 0), (0, 2), (1, 1)]
        self.assertEqual(ask_rows(CENTRED, second, DIFFER), [[4]])

    def test_one_that_is_taken_to_beyond_all(self):
        # The view takes a trapeze to a square, 5, 3 to 7, 6, and where its sides meet to beyond all.
        trapeze = [(0, 0), (4, 0), (3, 2), (1, 2), (5, 3), (2, 4)]
        for sixth in ((0, 0), (2, 2), (50, 50)):
            self.assertEqual(ask_rows(trapeze, SQUARE + [(7, 6), sixth], DIFFER), [[5]], sixth)
            self.assertEqual(ask_rows(SQUARE + [(7, 6), sixth], trapeze, DIFFER), [[5]], sixth)

    def test_on_a_line_with_two(self):
        row = [(0, 0), (2, 0), (0, 2), (2, 2)]
        self.assertEqual(ask_rows(row + [(4, 0)], row + [(3, 0)], DIFFER), [[4]])
        self.assertEqual(ask_rows(row + [(4, 0)], row + [(4, 0)], DIFFER), [[-33]])

    def test_the_same_point_twice(self):
        self.assertEqual(ask_rows(SQUARE + [(0, 2)], KITE + [(1, 5)], DIFFER), [[-33]])
        self.assertEqual(ask_rows(SQUARE + [(0, 2)], KITE + [(9, 8)], DIFFER), [[4]])
        self.assertEqual(ask_rows(SQUARE + [(0, 2)] * 2, KITE + [(1, 5), (9, 8)], DIFFER), [[5]])

    def test_not_good(self):
        for first, second in ((LINED, SQUARE), (SQUARE, LINED), (LINED, LINED)):
            self.assertEqual(ask_rows(first, second, DIFFER), [[-16]])
            self.assertEqual(ask_rows(first + [(7, 3)], second + [(7, 4)], DIFFER), [[-16]])


if __name__ == "__main__":
    unittest.main()
