"""Every answer against the slow second way of helper.py, and what the document says holds (a to e).

The rows are drawn from a seeded source, so each run has the same ones. Small numbers make many rows that are
not good, that have a point twice, or that fit in several orders.
"""

import random
import unittest

import helper
from helper import ALIKE, GENERAL, ORDER, ORDERS, ask_rows, own, ratios

CALLS = [GENERAL, ALIKE, ORDER, ORDERS, own(0), own(1)]
CALLS += [ratios(k, i) for k in (0, 1) for i in range(7)]


def drawn_row(source, size, most):
    return [(source.randint(0, most), source.randint(0, most)) for at in range(size)]


def whole_view(source, row):
    """The row as some view shows it, if the points come out whole and from 0 to 50; else None."""
    view = [[source.randint(-3, 3) for at in range(3)] for line in range(3)]
    picture = []
    for u, v in row:
        x, y, z = [line[0] * u + line[1] * v + line[2] for line in view]
        if z == 0 or x % z or y % z:
            return None
        picture.append((x // z, y // z))
    picture = [(u + 25, v + 25) for u, v in picture]
    if all(0 <= number <= 50 for number in helper.flat(picture)):
        return picture
    return None


def found_view(source, row):
    """The row as the first view of many drawn shows it that whole_view takes; as it is, if none does."""
    for attempt in range(30):
        picture = whole_view(source, row)
        if picture is not None:
            return picture
    return list(row)


def second_for(source, first, most):
    """A row for the first: drawn anew, its points otherwise numbered, or a view of it, at times renumbered."""
    way = source.randrange(4)
    if way == 0:
        return drawn_row(source, len(first), most)
    second = list(first)
    if way > 1:
        second = found_view(source, first)
    if way != 2:
        source.shuffle(second)
    return second


def drawn_pairs(seed, count):
    source = random.Random(seed)
    for at in range(count):
        size = source.choice((4, 5, 5, 6))
        most = source.choice((2, 3, 4, 6, 50))
        first = drawn_row(source, size, most)
        yield first, second_for(source, first, most)


class SecondWay(unittest.TestCase):
    def test_every_answer(self):
        kinds = set()
        for first, second in drawn_pairs(1, 120):
            told = ask_rows(first, second, *CALLS)
            wanted = [
                helper.slow_general(first, second),
                helper.slow_alike(first, second),
                helper.slow_order(first, second),
                helper.slow_orders(first, second),
                helper.slow_own(first),
                helper.slow_own(second),
            ]
            wanted += [helper.slow_ratios(row, i) for row in (first, second) for i in range(7)]
            self.assertEqual(told, wanted, (first, second))
            kinds.update((at, part[0]) for at, part in enumerate(told[:3]))
        # Else the rows drawn would prove little.
        for kind in ((0, 0), (0, 1), (0, 2), (0, 3), (1, -16), (1, 0), (1, 1), (2, -33), (2, 5), (2, 6)):
            self.assertIn(kind, kinds)


class WhatHolds(unittest.TestCase):
    def test_by_ratios(self):
        for first, second in drawn_pairs(2, 1500):
            told = ask_rows(first, second, ALIKE, *[ratios(k, i) for k in (0, 1) for i in (4, 5)])
            if told[0] == [-16] or [-6] in told:
                continue
            self.assertEqual(told[0], [1 if told[1:3] == told[3:5] else 0], (first, second))

    def test_alike_of_itself_and_both_ways(self):
        for first, second in drawn_pairs(3, 1500):
            there = ask_rows(first, second, ALIKE)
            self.assertEqual(ask_rows(second, first, ALIKE), there)
            if there != [[-16]]:
                self.assertEqual(ask_rows(first, first, ALIKE), [[1]])

    def test_alike_is_handed_on(self):
        source = random.Random(4)
        chains = 0
        for first, second in drawn_pairs(5, 1500):
            third = found_view(source, second)
            if ask_rows(first, second, ALIKE) == [[1]] and ask_rows(second, third, ALIKE) == [[1]]:
                chains += len(first) > 4 and second != third
                self.assertEqual(ask_rows(first, third, ALIKE), [[1]], (first, second, third))
        self.assertGreater(chains, 10)

    def test_alike_rows_have_the_same_threes_on_a_line(self):
        for first, second in drawn_pairs(6, 1500):
            told = ask_rows(first, second, ALIKE, GENERAL)
            if told[0] == [1]:
                self.assertIn(told[1], ([0], [3]), (first, second))

    def test_as_many_orders_as_to_itself(self):
        for first, second in drawn_pairs(7, 600):
            told = ask_rows(first, second, ORDERS, own(0), own(1))
            if told[0][0] > 0:
                self.assertEqual(told[0], told[1], (first, second))
                self.assertEqual(told[1], told[2], (first, second))

    def test_the_order_told_makes_them_alike(self):
        for first, second in drawn_pairs(8, 600):
            told = ask_rows(first, second, ORDER)[0]
            if told[0] > 0:
                again = [second[number] for number in told[1:]]
                self.assertEqual(ask_rows(first, again, ALIKE), [[1]], (first, second))


if __name__ == "__main__":
    unittest.main()
