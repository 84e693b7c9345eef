"""swap and state, and every other call behind a swap."""

import unittest

from helper import ALIKE, DIFFER, GENERAL, ORDER, ORDERS, STATE, SWAP
from helper import ask, ask_rows, back, flat, lines, own, ratios, start, start_numbers, takes

SQUARE = [(0, 0), (2, 0), (2, 2), (0, 2)]
KITE = [(0, 0), (7, 1), (9, 8), (1, 5)]
LINED = [(0, 0), (1, 1), (2, 2), (0, 2)]
TRAPEZE = [(0, 0), (4, 0), (3, 2), (1, 2)]
CENTRED = SQUARE + [(1, 1)]
HEXAGON = [(0, 0), (1, 0), (2, 1), (2, 2), (1, 2), (0, 1)]
CORNERS = [(50, 50), (0, 50), (50, 0), (0, 0), (3, 50), (50, 4)]
# Its numbers are moved by one each, so that the way there and the way back are told by other orders.
TURNED = [(2, 9), (0, 0), (1, 0), (0, 1), (1, 1)]
STRAIGHT = [(0, 0), (1, 0), (0, 1), (1, 1), (2, 9)]
CALLS = [GENERAL, ALIKE, ORDER, ORDERS, DIFFER, STATE]
CALLS += [call(k) for call in (own, lines) for k in (0, 1, 2)]
CALLS += [ratios(k, i) for k in (0, 1, 2) for i in (3, 4, 5, 6)]
CALLS += [call(u, v) for call in (takes, back) for u, v in ((2, 1), (2, 4), (50, 0), (51, 0))]
PAIRS = (
    (SQUARE, TRAPEZE),
    (SQUARE, LINED),
    (CENTRED, KITE + [(3, 3)]),
    (TURNED, STRAIGHT),
    (HEXAGON, CENTRED + [(9, 4)]),
    (HEXAGON, CORNERS),
)


class State(unittest.TestCase):
    def test_behind_a_start(self):
        self.assertEqual(ask_rows(SQUARE, KITE, STATE), [[4, 0, 0, 2, 0, 2, 2, 0, 2, 0, 0, 7, 1, 9, 8, 1, 5]])
        for first, second in PAIRS:
            self.assertEqual(ask_rows(first, second, STATE), [[len(first)] + flat(first) + flat(second)])

    def test_rows_need_not_be_good(self):
        self.assertEqual(ask_rows([(3, 5)] * 4, LINED, STATE), [[4] + [3, 5] * 4 + flat(LINED)])

    def test_behind_a_swap(self):
        told = ask_rows(SQUARE, KITE, SWAP, STATE, STATE)
        self.assertEqual(told, [[0], [4] + flat(KITE) + flat(SQUARE), [4] + flat(KITE) + flat(SQUARE)])

    def test_behind_a_start_that_is_refused(self):
        wrong = start_numbers([1] * 8, [1] * 7 + [51])
        told = ask_rows(SQUARE, KITE, wrong, STATE, SWAP, wrong, STATE)
        there = [4] + flat(SQUARE) + flat(KITE)
        exchanged = [4] + flat(KITE) + flat(SQUARE)
        self.assertEqual(told, [[-22], there, [0], [-22], exchanged])

    def test_behind_another_start(self):
        told = ask_rows(SQUARE, KITE, SWAP, start(HEXAGON, CORNERS), STATE, start(TURNED, STRAIGHT), STATE)
        wanted = [[0], [6], [6] + flat(HEXAGON) + flat(CORNERS), [5], [5] + flat(TURNED) + flat(STRAIGHT)]
        self.assertEqual(told, wanted)

    def test_no_other_call_changes_it(self):
        for first, second in PAIRS:
            told = ask_rows(first, second, *CALLS, STATE)
            self.assertEqual(told[-1], [len(first)] + flat(first) + flat(second))

    def test_ahead_of_a_start(self):
        self.assertEqual(ask(STATE, start(SQUARE, CENTRED), STATE), [[-11], [-22], [-11]])


class Swap(unittest.TestCase):
    def test_every_other_call_answers_of_the_exchanged_rows(self):
        for first, second in PAIRS:
            told = ask_rows(first, second, SWAP, *CALLS)
            self.assertEqual(told, [[0]] + ask_rows(second, first, *CALLS), (first, second))

    def test_each_call_tells_the_rows_apart(self):
        # Else the test above would prove nothing of that call. alike, orders and differ are the same both ways.
        apart = [False] * len(CALLS)
        for first, second in PAIRS:
            both = zip(ask_rows(first, second, *CALLS), ask_rows(second, first, *CALLS))
            apart = [old or one != other for old, (one, other) in zip(apart, both)]
        for call in (GENERAL, ORDER, STATE, own(0), own(1), lines(0), lines(1), ratios(0, 4), ratios(1, 5)):
            self.assertTrue(apart[CALLS.index(call)], call)
        for call in (takes(2, 1), takes(2, 4), back(2, 4), back(50, 0)):
            self.assertTrue(apart[CALLS.index(call)], call)

    def test_twice_is_as_none(self):
        for first, second in PAIRS:
            told = ask_rows(first, second, SWAP, SWAP, *CALLS)
            self.assertEqual(told, [[0], [0]] + ask_rows(first, second, *CALLS), (first, second))

    def test_rows_need_not_be_good(self):
        told = ask_rows(LINED, SQUARE, GENERAL, SWAP, GENERAL, own(0))
        self.assertEqual(told, [[2], [0], [1], [24]])

    def test_ahead_of_a_start_exchanges_nothing(self):
        told = ask(SWAP, start(SQUARE, CENTRED), SWAP, start(SQUARE, KITE), STATE)
        self.assertEqual(told, [[-11], [-22], [-11], [4], [4] + flat(SQUARE) + flat(KITE)])

    def test_takes_and_back_change_places(self):
        told = ask_rows(SQUARE, TRAPEZE, takes(1, 1), back(2, 4), SWAP, back(1, 1), takes(2, 4))
        self.assertEqual(told, [[0, 2, 1, 4, 3], [-6], [0], [0, 2, 1, 4, 3], [-6]])


if __name__ == "__main__":
    unittest.main()
