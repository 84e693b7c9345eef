"""start, the answer -11 ahead of it, and how the lists of calls and answers stand."""

import contextlib
import io
import unittest

from helper import ALIKE, DIFFER, GENERAL, ORDER, ORDERS, STATE, SWAP
from helper import ask, back, flat, lines, own, ratios, start, start_numbers, takes
from twothings.orders import answers

SQUARE = [(0, 0), (2, 0), (2, 2), (0, 2)]
KITE = [(0, 0), (7, 1), (9, 8), (1, 5)]
FIVE = SQUARE + [(1, 1)]
SIX = FIVE + [(50, 7)]
LINED = [(0, 0), (1, 1), (2, 2), (0, 2)]
LEAST = -2147483648
MOST = 2147483647
OTHERS = (
    GENERAL, ALIKE, ORDER, ORDERS, ratios(0, 4), ratios(9, 9), own(0), own(2), takes(1, 1), takes(-1, 51),
    back(1, 1), back(LEAST, MOST), lines(0), lines(MOST), DIFFER, SWAP, STATE,
)
ASKED = (
    GENERAL, ALIKE, ORDER, ORDERS, ratios(0, 4), ratios(1, 4), own(0), own(1), takes(3, 7), back(3, 7), lines(0),
    lines(1), DIFFER, STATE,
)


class Start(unittest.TestCase):
    def refused(self, l, m):
        self.assertEqual(ask(start_numbers(l, m)), [[-22]], (l, m))

    def test_tells_how_many_points_each_has(self):
        self.assertEqual(ask(start(SQUARE, KITE)), [[4]])
        self.assertEqual(ask(start(FIVE, FIVE)), [[5]])
        self.assertEqual(ask(start(SIX, SIX)), [[6]])

    def test_rows_need_not_be_good(self):
        self.assertEqual(ask(start(LINED, SQUARE)), [[4]])
        self.assertEqual(ask(start([(3, 3)] * 6, [(3, 3)] * 6)), [[6]])

    def test_numbers_from_0_to_50(self):
        self.assertEqual(ask(start_numbers([0, 50] * 4, [50, 0] * 4)), [[4]])
        for wrong in (-1, 51, LEAST, MOST):
            for at in range(8):
                l = flat(SQUARE)
                l[at] = wrong
                self.refused(l, flat(SQUARE))
                self.refused(flat(SQUARE), l)

    def test_odd_numbers_of_numbers(self):
        for count in (1, 7, 9, 11, 13, 59):
            self.refused([1] * count, [1] * count)

    def test_too_few_or_too_many_points(self):
        for count in (0, 2, 4, 6, 14, 16, 60):
            self.refused([1] * count, [1] * count)

    def test_not_as_many_in_both(self):
        good = (8, 10, 12)
        for one in good:
            for other in good + (0, 1, 7, 9, 14, 60):
                if one != other:
                    self.refused([1] * one, [1] * other)
                    self.refused([1] * other, [1] * one)

    def test_empty_rows(self):
        self.refused([], [])
        self.refused([], flat(SQUARE))
        self.refused(flat(SQUARE), [])


class BeforeStart(unittest.TestCase):
    def test_every_other_call(self):
        for call in OTHERS:
            self.assertEqual(ask(call), [[-11]], call)
        self.assertEqual(ask(*OTHERS), [[-11]] * len(OTHERS))

    def test_a_refused_start_is_none(self):
        told = ask(start(SQUARE, FIVE), *OTHERS)
        self.assertEqual(told, [[-22]] + [[-11]] * len(OTHERS))

    def test_calls_ahead_of_a_start_do_not_spoil_it(self):
        told = ask(ALIKE, start(SQUARE, FIVE), ratios(0, 4), start(FIVE, FIVE), ALIKE)
        self.assertEqual(told, [[-11], [-22], [-11], [5], [1]])


class StartAgain(unittest.TestCase):
    def test_the_new_rows_hold(self):
        told = ask(start(FIVE, FIVE), own(0), ratios(0, 4), start(KITE, SQUARE), own(0), ratios(0, 4), ALIKE)
        self.assertEqual(told, [[5], [8], [0, 1, 1, 0, 1], [4], [24], [-2], [1]])

    def test_both_new_rows_hold(self):
        told = ask(start(SQUARE, LINED), GENERAL, start(LINED, SQUARE), GENERAL, start(SQUARE, KITE), GENERAL)
        self.assertEqual(told, [[4], [1], [4], [2], [4], [3]])

    def test_a_refused_one_changes_nothing(self):
        other = KITE + [(3, 4)]
        before = ask(start(FIVE, other), *ASKED)[1:]
        wrong = flat(KITE)
        wrong[7] = 51
        for refused in (
            start_numbers([], []),
            start_numbers(flat(KITE), wrong),
            start_numbers(wrong, flat(KITE)),
            start_numbers(flat(KITE), flat(SIX)),
            start_numbers([1] * 9, [1] * 9),
        ):
            told = ask(start(FIVE, other), refused, *ASKED)
            self.assertEqual(told[1], [-22])
            self.assertEqual(told[2:], before)


class Interface(unittest.TestCase):
    CALLS = start(FIVE, FIVE) + ALIKE + start(FIVE, SQUARE) + ORDER + ratios(1, 4) + own(1) + own(7)
    CALLS = CALLS + takes(1, 9) + back(9, 1) + lines(0) + lines(7) + DIFFER + SWAP + STATE

    def test_counts_stand_ahead_of_the_answers(self):
        told = answers(start(SQUARE, KITE) + ALIKE + ORDER + ORDERS + ratios(0, 4) + own(2))
        self.assertEqual(told, [1, 4, 1, 1, 5, 4, 0, 1, 2, 3, 1, 24, 1, -2, 1, -22])

    def test_two_hundred_calls(self):
        told = ask(start(SIX, SIX), SWAP, GENERAL, ALIKE, *[ORDERS, own(0), lines(0), STATE] * 49)
        self.assertEqual(len(told), 200)
        self.assertEqual(told[4:8] * 49, told[4:])

    def test_the_longest_list(self):
        calls = start_numbers([1] * 60, [1] * 60) * 200
        self.assertEqual(len(calls), 24600)
        self.assertEqual(answers(calls), [1, -22] * 200)

    def test_the_list_stays_and_nothing_is_kept(self):
        calls = list(self.CALLS)
        one = answers(calls)
        self.assertEqual(calls, self.CALLS)
        self.assertEqual(answers(calls), one)
        self.assertEqual(calls, self.CALLS)
        self.assertEqual(answers(list(ALIKE)), [1, -11])

    def test_the_list_is_not_changed_for_a_while_either(self):
        class Watched(list):
            def refuse(self, *handed):
                raise AssertionError("the list was changed")

            append = extend = insert = pop = remove = clear = reverse = sort = refuse
            __setitem__ = __delitem__ = __iadd__ = __imul__ = refuse

        self.assertEqual(answers(Watched(self.CALLS)), answers(list(self.CALLS)))

    def test_what_is_given_back_is_new(self):
        one = answers(self.CALLS)
        kept = list(one)
        one.clear()
        self.assertEqual(answers(self.CALLS), kept)

    def test_whole_numbers_alone(self):
        told = answers(self.CALLS + GENERAL + ORDERS)
        self.assertIs(type(told), list)
        for number in told:
            self.assertIs(type(number), int)

    def test_nothing_is_printed(self):
        out = io.StringIO()
        with contextlib.redirect_stdout(out), contextlib.redirect_stderr(out):
            answers(self.CALLS)
        self.assertEqual(out.getvalue(), "")


if __name__ == "__main__":
    unittest.main()
