"""Every answer against the slow second way of helper.py, and what the document says holds (a to e).

The rows are drawn from a seeded source, so each run has the same ones. Small numbers make many rows that are
not good, that have a point twice, or that fit in several orders.
"""

import random
import unittest

import helper
from helper import ALIKE, DIFFER, GENERAL, ORDER, ORDERS, STATE, ask_rows, back, lines, own, ratios, takes

CALLS = [GENERAL, ALIKE, ORDER, ORDERS, own(0), own(1)]
CALLS += [ratios(k, i) for k in (0, 1) for i in range(7)]
QUICK_CALLS = [DIFFER, lines(0), lines(1), STATE]


def drawn_row(source, size, most):
    return [(source.randint(0, most), source.randint(0, most)) for at in range(size)]


def whole_view(source, row):
    """The row as some view shows it, if the points come out whole and from 0 to 50; else None."""
    view = [[source.randint(-3, 3) for at in range(3)] for line in range(3)]
    picture = []
    for u, v in row:
        x, y, z = [line[0] * u + line[1] * v + line[2] for line in view]
        if z == 0 or x % z or y % z:
            return None
        picture.append((x // z, y // z))
    picture = [(u + 25, v + 25) for u, v in picture]
    if all(0 <= number <= 50 for number in helper.flat(picture)):
        return picture
    return None


def found_view(source, row):
    """The row as the first view of many drawn shows it that whole_view takes; as it is, if none does."""
    for attempt in range(30):
        picture = whole_view(source, row)
        if picture is not None:
            return picture
    return list(row)


def second_for(source, first, most):
    """A row for the first: drawn anew, its points otherwise numbered, or a view of it, at times renumbered."""
    way = source.randrange(4)
    if way == 0:
        return drawn_row(source, len(first), most)
    second = list(first)
    if way > 1:
        second = found_view(source, first)
    if way != 2:
        source.shuffle(second)
    return second


def drawn_pairs(seed, count):
    source = random.Random(seed)
    for at in range(count):
        size = source.choice((4, 5, 5, 6))
        most = source.choice((2, 3, 4, 6, 50))
        first = drawn_row(source, size, most)
        yield first, second_for(source, first, most)


class SecondWay(unittest.TestCase):
    def test_every_answer(self):
        kinds = set()
        for first, second in drawn_pairs(1, 120):
            told = ask_rows(first, second, *CALLS)
            wanted = [
                helper.slow_general(first, second),
                helper.slow_alike(first, second),
                helper.slow_order(first, second),
                helper.slow_orders(first, second),
                helper.slow_own(first),
                helper.slow_own(second),
            ]
            wanted += [helper.slow_ratios(row, i) for row in (first, second) for i in range(7)]
            self.assertEqual(told, wanted, (first, second))
            kinds.update((at, part[0]) for at, part in enumerate(told[:3]))
        # Else the rows drawn would prove little.
        for kind in ((0, 0), (0, 1), (0, 2), (0, 3), (1, -16), (1, 0), (1, 1), (2, -33), (2, 5), (2, 6)):
            self.assertIn(kind, kinds)


    def test_differ_lines_and_state(self):
        source = random.Random(14)
        kinds = set()
        for at, (first, second) in enumerate(drawn_pairs(9, 600)):
            if at % 3 == 0:
                # Two drawn rows hardly ever differ at their last point alone.
                second = found_view(source, first)[:-1] + drawn_row(source, 1, 6)
            told = ask_rows(first, second, *QUICK_CALLS)
            wanted = [
                helper.slow_differ(first, second),
                helper.slow_lines(first),
                helper.slow_lines(second),
                [len(first)] + helper.flat(first) + helper.flat(second),
            ]
            self.assertEqual(told, wanted, (first, second))
            kinds.add(told[0][0])
        self.assertEqual(kinds, {-33, -16, 4, 5})

    def test_takes_and_back(self):
        source = random.Random(10)
        kinds = set()
        for first, second in drawn_pairs(11, 200):
            most = source.choice((3, 7, 50))
            points = first + second + drawn_row(source, 6, most) + [(51, 0), (0, -1)]
            for u, v in points:
                told = ask_rows(first, second, takes(u, v), back(u, v))
                wanted = [helper.slow_takes(first, second, u, v), helper.slow_takes(second, first, u, v)]
                self.assertEqual(told, wanted, (first, second, u, v))
                kinds.update((at, part[0]) for at, part in enumerate(told))
        self.assertEqual(kinds, {(at, kind) for at in (0, 1) for kind in (-22, -16, -6, 0)})


class WhatHolds(unittest.TestCase):
    def test_four_tell_nothing(self):
        tried = 0
        for first, second in drawn_pairs(12, 800):
            told = ask_rows(first[:4], second[:4], lines(0), lines(1), ALIKE, DIFFER, ORDERS)
            if told[:2] == [[0], [0]]:
                tried += 1
                self.assertEqual(told[2:], [[1], [-33], [24]], (first, second))
        self.assertGreater(tried, 100)

    def test_by_ratios(self):
        for first, second in drawn_pairs(2, 1500):
            told = ask_rows(first, second, ALIKE, *[ratios(k, i) for k in (0, 1) for i in (4, 5)])
            if told[0] == [-16] or [-6] in told:
                continue
            self.assertEqual(told[0], [1 if told[1:3] == told[3:5] else 0], (first, second))

    def test_alike_of_itself_and_both_ways(self):
        for first, second in drawn_pairs(3, 1500):
            there = ask_rows(first, second, ALIKE)
            self.assertEqual(ask_rows(second, first, ALIKE), there)
            if there != [[-16]]:
                self.assertEqual(ask_rows(first, first, ALIKE), [[1]])

    def test_alike_is_handed_on(self):
        source = random.Random(4)
        chains = 0
        for first, second in drawn_pairs(5, 1500):
            third = found_view(source, second)
            if ask_rows(first, second, ALIKE) == [[1]] and ask_rows(second, third, ALIKE) == [[1]]:
                chains += len(first) > 4 and second != third
                self.assertEqual(ask_rows(first, third, ALIKE), [[1]], (first, second, third))
        self.assertGreater(chains, 10)

    def test_alike_rows_have_the_same_threes_on_a_line(self):
        with_lines = 0
        for first, second in drawn_pairs(6, 1500):
            told = ask_rows(first, second, ALIKE, GENERAL, lines(0), lines(1))
            if told[0] == [1]:
                self.assertIn(told[1], ([0], [3]), (first, second))
                self.assertEqual(told[2], told[3], (first, second))
                with_lines += told[2] != [0]
        self.assertGreater(with_lines, 50)

    def test_alike_just_if_each_is_taken_to_the_one_of_its_number(self):
        for first, second in drawn_pairs(13, 1500):
            told = ask_rows(first, second, ALIKE, DIFFER, *[takes(*point) for point in first])
            if told[0] == [-16]:
                continue
            there = [part == [0, aim[0], 1, aim[1], 1] for part, aim in zip(told[2:], second)]
            self.assertEqual(told[0], [1 if all(there) else 0], (first, second))
            self.assertEqual(told[1], [-33 if all(there) else there.index(False)], (first, second))

    def test_as_many_orders_as_to_itself(self):
        for first, second in drawn_pairs(7, 600):
            told = ask_rows(first, second, ORDERS, own(0), own(1))
            if told[0][0] > 0:
                self.assertEqual(told[0], told[1], (first, second))
                self.assertEqual(told[1], told[2], (first, second))

    def test_the_order_told_makes_them_alike(self):
        for first, second in drawn_pairs(8, 600):
            told = ask_rows(first, second, ORDER)[0]
            if told[0] > 0:
                again = [second[number] for number in told[1:]]
                self.assertEqual(ask_rows(first, again, ALIKE), [[1]], (first, second))


if __name__ == "__main__":
    unittest.main()
