"""general, alike, order, orders, own: ordinary rows, the document's corners, and refusals."""

import itertools
import unittest

from helper import ALIKE, GENERAL, ORDER, ORDERS, ask_rows, own, seen

SQUARE = [(0, 0), (2, 0), (2, 2), (0, 2)]
KITE = [(0, 0), (7, 1), (9, 8), (1, 5)]
CENTRED = SQUARE + [(1, 1)]
LINED = [(0, 0), (1, 1), (2, 2), (0, 2)]
# Stretched, a regular hexagon: its twelve turns and turnings-over are views.
HEXAGON = [(0, 0), (1, 0), (2, 1), (2, 2), (1, 2), (0, 1)]
# Where four lines meet, two by two: each way to exchange the lines is a view.
FOUR_LINES = [(0, 6), (6, 0), (0, 4), (8, 0), (0, 0), (4, 2)]
SKEW = [(0, 0), (4, 0), (5, 3), (1, 6), (2, 1), (7, 9)]
# Shows u, v at 12 u, 12 v by u + v + 1.
TILTED = [[12, 0, 0], [0, 12, 0], [1, 1, 1]]
# Rows that it shows at whole numbers. The second has no three on a line, and fits to itself as it is alone.
PLAIN = [(0, 0), (1, 0), (0, 1), (1, 1), (2, 1), (1, 2)]
ONE_WAY = [(0, 0), (0, 1), (1, 0), (1, 1), (2, 3), (2, 9)]


def moved(points, order):
    """The points so renumbered that in this order they are what they were."""
    result = [None] * len(points)
    for place, number in enumerate(order):
        result[number] = points[place]
    return result


class General(unittest.TestCase):
    def test_each_row_has_its_number(self):
        self.assertEqual(ask_rows(SQUARE, KITE, GENERAL), [[3]])
        self.assertEqual(ask_rows(SQUARE, LINED, GENERAL), [[1]])
        self.assertEqual(ask_rows(LINED, SQUARE, GENERAL), [[2]])
        self.assertEqual(ask_rows(LINED, LINED, GENERAL), [[0]])

    def test_no_three_at_all(self):
        self.assertEqual(ask_rows(HEXAGON, CENTRED + [(9, 4)], GENERAL), [[1]])
        self.assertEqual(ask_rows(CENTRED + [(9, 4)], HEXAGON, GENERAL), [[2]])

    def test_every_three_counts(self):
        for three in itertools.combinations(range(6), 3):
            row = list(HEXAGON)
            a, b, c = three
            row[c] = tuple(2 * y - x for x, y in zip(row[a], row[b]))
            row = [(u + 20, v + 20) for u, v in row]
            self.assertEqual(ask_rows(row, HEXAGON, GENERAL), [[2]], three)

    def test_upright_and_level_lines(self):
        for row in ([(3, 0), (3, 5), (3, 50), (7, 1)], [(0, 3), (5, 3), (50, 3), (1, 7)]):
            self.assertEqual(ask_rows(row, SQUARE, GENERAL), [[2]])

    def test_near_a_line_is_not_on_it(self):
        row = [(0, 0), (49, 48), (50, 49), (0, 50)]
        self.assertEqual(ask_rows(row, row, GENERAL), [[3]])

    def test_the_same_point_twice_is_on_a_line_with_any(self):
        self.assertEqual(ask_rows(SQUARE + [(2, 2)], HEXAGON[:5], GENERAL), [[2]])
        self.assertEqual(ask_rows(HEXAGON, HEXAGON[:5] + [(1, 2)], GENERAL), [[1]])


class Alike(unittest.TestCase):
    def test_four_tell_nothing(self):
        for four in itertools.permutations(KITE):
            self.assertEqual(ask_rows(SQUARE, list(four), ALIKE, ORDER, ORDERS), [[1], [4, 0, 1, 2, 3], [24]])

    def test_a_row_and_its_view(self):
        picture = seen(TILTED, PLAIN)
        self.assertEqual(ask_rows(PLAIN, picture, ALIKE), [[1]])
        self.assertEqual(ask_rows(picture, PLAIN, ALIKE), [[1]])

    def test_a_fifth_that_is_elsewhere(self):
        picture = seen(TILTED, PLAIN)
        for at in (4, 5):
            for du, dv in ((1, 0), (0, 1), (-1, 0), (0, -1), (1, 1)):
                wrong = list(picture)
                wrong[at] = (wrong[at][0] + du, wrong[at][1] + dv)
                self.assertEqual(ask_rows(PLAIN, wrong, ALIKE), [[0]], (at, du, dv))
                self.assertEqual(ask_rows(wrong, PLAIN, ALIKE), [[0]], (at, du, dv))

    def test_a_fifth_on_a_line_with_two(self):
        self.assertEqual(ask_rows(CENTRED, [(0, 0), (4, 0), (4, 4), (0, 4), (2, 2)], ALIKE), [[1]])
        for pair in itertools.combinations(range(4), 2):
            a, b = [SQUARE[number] for number in pair]
            fifth = ((a[0] + b[0]) // 2, (a[1] + b[1]) // 2)
            other = a
            self.assertEqual(ask_rows(SQUARE + [fifth], SQUARE + [fifth], ALIKE), [[1]], pair)
            self.assertEqual(ask_rows(SQUARE + [fifth], SQUARE + [other], ALIKE), [[0]], pair)
            self.assertEqual(ask_rows(SQUARE + [other], SQUARE + [fifth], ALIKE), [[0]], pair)

    def test_one_beyond_all_by_the_others(self):
        # The fifth lies with the first two, so that it has the third not at all.
        row = [(0, 0), (2, 0), (0, 2), (2, 2)]
        for u in (1, 3, 4, 50):
            self.assertEqual(ask_rows(row + [(u, 0)], row + [(u, 0)], ALIKE), [[1]])
            self.assertEqual(ask_rows(row + [(u, 0)], row + [(u - 1, 0)], ALIKE), [[0]])

    def test_one_that_the_view_takes_to_beyond_all(self):
        # The view takes a trapeze to a square, and where its sides meet to beyond all.
        trapeze = [(0, 0), (4, 0), (3, 2), (1, 2), (2, 4)]
        for fifth in ((0, 0), (1, 1), (50, 50), (2, 2)):
            self.assertEqual(ask_rows(trapeze, SQUARE + [fifth], ALIKE), [[0]], fifth)
            self.assertEqual(ask_rows(SQUARE + [fifth], trapeze, ALIKE), [[0]], fifth)

    def test_the_same_point_twice(self):
        self.assertEqual(ask_rows(SQUARE + [(0, 2)], KITE + [(1, 5)], ALIKE), [[1]])
        self.assertEqual(ask_rows(SQUARE + [(0, 2)], KITE + [(9, 8)], ALIKE), [[0]])
        picture = seen(TILTED, PLAIN)
        self.assertEqual(ask_rows(PLAIN[:5] + PLAIN[4:5], picture[:5] + picture[4:5], ALIKE), [[1]])
        self.assertEqual(ask_rows(PLAIN[:5] + PLAIN[4:5], picture, ALIKE), [[0]])

    def test_three_of_the_first_four_on_a_line(self):
        self.assertEqual(ask_rows(LINED, SQUARE, ALIKE), [[-16]])
        self.assertEqual(ask_rows(SQUARE, LINED, ALIKE), [[-16]])
        self.assertEqual(ask_rows(LINED, LINED, ALIKE), [[-16]])

    def test_each_three_of_the_first_four(self):
        for three in itertools.combinations(range(4), 3):
            row = list(KITE)
            for number, point in zip(three, [(3, 1), (5, 2), (9, 4)]):
                row[number] = point
            self.assertEqual(ask_rows(row, KITE, ALIKE, ORDER, ORDERS, own(0)), [[-16]] * 4, three)
            self.assertEqual(ask_rows(KITE, row, ALIKE, ORDER, ORDERS, own(1)), [[-16]] * 4, three)


class Orders(unittest.TestCase):
    def test_rows_that_fit_but_not_as_told(self):
        for order in itertools.permutations(range(6)):
            second = moved(seen(TILTED, ONE_WAY), order)
            alike = 1 if order == tuple(range(6)) else 0
            told = ask_rows(ONE_WAY, second, ALIKE, ORDER, ORDERS)
            self.assertEqual(told, [[alike], [6] + list(order), [1]])

    def test_rows_that_fit_in_no_order(self):
        self.assertEqual(ask_rows(CENTRED, HEXAGON[:5], ALIKE, ORDER, ORDERS), [[0], [-33], [0]])
        self.assertEqual(ask_rows(HEXAGON[:5], CENTRED, ALIKE, ORDER, ORDERS), [[0], [-33], [0]])
        self.assertEqual(ask_rows(SKEW, HEXAGON, ALIKE, ORDER, ORDERS), [[0], [-33], [0]])

    def test_the_first_of_several_orders(self):
        # The second row's middle has number 4 as well, but two corners beside one another are exchanged.
        second = [(0, 0), (2, 2), (2, 0), (0, 2), (1, 1)]
        told = ask_rows(CENTRED, second, ALIKE, ORDER, ORDERS)
        self.assertEqual(told, [[0], [5, 0, 2, 1, 3, 4], [8]])

    def test_several_orders_first_told_though_alike(self):
        told = ask_rows(HEXAGON, HEXAGON, ALIKE, ORDER, ORDERS)
        self.assertEqual(told, [[1], [6, 0, 1, 2, 3, 4, 5], [12]])

    def test_an_order_is_of_numbers_in_the_second_row(self):
        first = PLAIN[:4] + [(2, 9)]
        picture = seen(TILTED, first)
        # Its point 0 was point 1, its point 1 was point 4, and so on: going there and back differ.
        second = [picture[number] for number in (1, 4, 0, 2, 3)]
        self.assertEqual(ask_rows(first, second, ORDER, ORDERS), [[5, 2, 0, 3, 4, 1], [1]])

    def test_an_order_whose_first_four_are_not_good_does_not_count(self):
        # Number 4 is on a line with 0 and 2, and with 1 and 3: it can't be one of the first four.
        told = ask_rows(CENTRED, CENTRED, ORDERS, own(0))
        self.assertEqual(told, [[8], [8]])

    def test_not_good_as_told_though_an_order_would_do(self):
        second = [SQUARE[0], SQUARE[1], (1, 1), SQUARE[2], SQUARE[3]]
        self.assertEqual(ask_rows(CENTRED, second, ALIKE, ORDER, ORDERS), [[-16]] * 3)
        self.assertEqual(ask_rows(second, CENTRED, ALIKE, ORDER, ORDERS), [[-16]] * 3)

    def test_not_good_is_told_ahead_of_none_fits(self):
        self.assertEqual(ask_rows(LINED + [(9, 4)], HEXAGON[:5], ORDER, ORDERS), [[-16]] * 2)

    def test_the_same_point_twice(self):
        # The twofold point may stand either way round.
        told = ask_rows(SQUARE + [(0, 0)], KITE + [(7, 1)], ALIKE, ORDER, ORDERS)
        self.assertEqual(told, [[0], [5, 1, 0, 2, 3, 4], [12]])
        told = ask_rows(CENTRED + [(1, 1)], CENTRED + [(1, 1)], ALIKE, ORDER, ORDERS)
        self.assertEqual(told, [[1], [6, 0, 1, 2, 3, 4, 5], [16]])

    def test_as_many_orders_as_the_first_has_to_itself(self):
        for row, count in ((HEXAGON, 12), (FOUR_LINES, 24), (CENTRED, 8)):
            for turned in (1, 2, 3):
                second = row[turned:4] + row[:turned] + row[4:]
                self.assertEqual(ask_rows(row, second, ORDERS, own(0), own(1)), [[count]] * 3)


class Own(unittest.TestCase):
    def test_each_row_by_itself(self):
        told = ask_rows(HEXAGON, SKEW, own(0), own(1))
        self.assertEqual(told, [[12], [1]])
        self.assertEqual(ask_rows(SKEW, FOUR_LINES, own(0), own(1)), [[1], [24]])

    def test_four_points(self):
        self.assertEqual(ask_rows(SQUARE, KITE, own(0), own(1)), [[24], [24]])

    def test_the_same_point_twice(self):
        self.assertEqual(ask_rows(SQUARE + [(0, 0)], SQUARE + [(0, 2)], own(0), own(1)), [[12], [12]])
        self.assertEqual(ask_rows(SQUARE + [(0, 0)] * 2, SQUARE + [(0, 0), (2, 0)], own(0), own(1)), [[36], [16]])

    def test_no_such_row(self):
        for k in (2, 3, 2147483647):
            self.assertEqual(ask_rows(SQUARE, KITE, own(k)), [[-22]])
            self.assertEqual(ask_rows(LINED, LINED, own(k)), [[-22]])

    def test_only_that_row_must_be_good(self):
        self.assertEqual(ask_rows(LINED, SQUARE, own(0), own(1)), [[-16], [24]])
        self.assertEqual(ask_rows(SQUARE, LINED, own(0), own(1)), [[24], [-16]])


if __name__ == "__main__":
    unittest.main()
