import unittest

from tests.helpers import Checks, n, row, rows
from toldproducts.errors import InvalidNumber, InvalidRow, InvalidSpan, InvalidUnit, UnlikeSizes
from toldproducts.rows import (
    combined, is_within, joined, met, number, places, relations, span, sum_of, times, told_by, unit,
)

# Tuples of two integers that are no numbers: a common divisor, 0 or less below, noughts in other words.
WRONG = [(2, 4), (1, 0), (1, -1), (-2, -3), (0, 2), (0, 0), (0, -1), (-3, 9), (10 ** 300, 10 ** 299)]
BAD, WORSE, WORST = (2, 4), (3, 6), (0, 5)


class NumbersThatAreNone(Checks, unittest.TestCase):
    def test_every_wrong_tuple_in_every_function(self):
        for wrong in WRONG:
            for function, handed in [
                (sum_of, ([wrong], row(1))), (sum_of, (row(1), [wrong])),
                (times, (wrong, row(1))), (times, ((1, 1), [(0, 1), wrong])), (times, (wrong, [])),
                (combined, ([wrong], rows([1]), 1)), (combined, (row(0), [[wrong]], 1)),
                (span, ([[n(1), wrong]], 2)),
                (is_within, ([[wrong]], row(1))), (is_within, ([row(1)], [wrong])), (is_within, ([], [wrong])),
                (places, ([[wrong]], row(1))), (places, ([row(1)], [wrong])), (places, ([], [wrong])),
                (told_by, ([wrong], [])), (told_by, (row(1), [row(1), [wrong]])),
                (relations, ([row(1), [wrong]],)),
                (joined, ([[wrong]], [], 1)), (joined, ([], [[wrong]], 1)),
                (met, ([[wrong]], [], 1)), (met, ([], [[wrong]], 1)),
            ]:
                self.assert_raises(InvalidNumber, wrong, function, *handed)

    def test_numbers_that_are_right(self):
        for right in [(-1, 2), (0, 1), (1, 1), (-9999, 9998), (10 ** 300, 10 ** 299 + 1)]:
            self.assertEqual(times((1, 1), [right]), [right])

    def test_below_of_nought(self):
        self.assert_raises(InvalidNumber, 0, number, 3, 0)
        self.assert_raises(InvalidNumber, 0, number, 0, 0)
        with self.assertRaises(InvalidNumber):
            number(above=3, below=0)

    def test_the_first_of_several(self):
        for function, handed in [
            (sum_of, ([n(1), BAD, WORSE], [WORST])), (sum_of, (row(1), [n(0), BAD, WORSE])),
            (times, (BAD, [WORSE])), (times, ((0, 1), [n(1), BAD, WORSE])),
            (combined, ([n(1), BAD], [[WORSE]], 1)), (combined, (row(0), [row(1), [n(1), BAD], [WORSE]], 1)),
            (span, ([row(1, 1), [n(1), BAD], [WORSE, WORST]], 2)),
            (is_within, ([row(1), [BAD]], [WORSE])), (places, ([row(1), [BAD]], [WORSE])),
            (told_by, ([n(1), BAD], [[WORSE]])), (told_by, (row(1), [[n(5), BAD], [WORSE]])),
            (relations, ([row(1), [n(1), BAD], [WORSE]],)),
            (joined, ([[n(0), BAD]], [[WORSE]], 2)), (met, ([[n(0), BAD]], [[WORSE]], 2)),
        ]:
            self.assert_raises(InvalidNumber, BAD, function, *handed)


class RowsThatAreWrong(Checks, unittest.TestCase):
    def test_units(self):
        for size, place in [(1, 1), (1, -1), (3, 3), (3, -1), (40, 41), (2, 10 ** 30)]:
            self.assert_raises(InvalidUnit, place, unit, size, place)

    def test_unlike_sizes(self):
        self.assert_raises(UnlikeSizes, 3, sum_of, row(1, 2), row(1, 2, 3))
        self.assert_raises(UnlikeSizes, 1, sum_of, row(1, 2), row(1))
        self.assert_raises(InvalidNumber, BAD, sum_of, row(1, 2), [BAD])

    def test_combined(self):
        self.assert_raises(InvalidRow, row(1), combined, row(1, 1), rows([1, 2], [1], [1, 2, 3]), 2)
        self.assert_raises(InvalidRow, [], combined, row(1), [[]], 2)
        self.assert_raises(InvalidRow, row(1, 2), combined, row(1, 2), rows([1, 2]), 2)
        self.assert_raises(InvalidRow, [], combined, [], rows([1, 2]), 2)
        self.assert_raises(InvalidRow, row(5), combined, row(5), [], 2)

    def test_combined_in_order(self):
        # The numbers of both lists, then the sizes of the rows, then how many there are.
        self.assert_raises(InvalidNumber, BAD, combined, [], [row(1), [n(0), n(0), BAD]], 2)
        self.assert_raises(InvalidNumber, BAD, combined, [n(1), BAD], rows([1]), 2)
        self.assert_raises(InvalidRow, row(7), combined, row(1, 2, 3), rows([0, 0], [7]), 2)

    def test_sizes_told_by_the_parameter(self):
        self.assert_raises(InvalidRow, row(1), span, rows([1, 2], [1], [1, 2, 3]), 2)
        self.assert_raises(InvalidRow, [], span, [[]], 1)
        for function in (joined, met):
            self.assert_raises(InvalidRow, row(1), function, rows([1]), rows([1, 0, 0]), 2)
            self.assert_raises(InvalidRow, row(1, 0, 0), function, rows([1, 0]), rows([0, 1], [1, 0, 0], [1]), 2)
            self.assert_raises(InvalidRow, [], function, [], [[]], 2)

    def test_sizes_told_by_the_first_row(self):
        for function in (is_within, places):
            self.assert_raises(InvalidRow, row(1), function, rows([1, 0], [1]), row(1, 2, 3))
            self.assert_raises(InvalidRow, row(1, 2, 3), function, rows([1, 0], [0, 1]), row(1, 2, 3))
            self.assert_raises(InvalidRow, row(1), function, rows([1, 0]), row(1))
        self.assert_raises(InvalidRow, row(1), told_by, row(1, 2), rows([1, 0], [1], [1, 2, 3]))
        self.assert_raises(InvalidRow, row(1, 0), told_by, row(1), rows([1, 0]))
        self.assert_raises(InvalidRow, row(1, 2), relations, rows([1], [2], [1, 2], [1, 2, 3]))

    def test_numbers_come_ahead_of_sizes(self):
        self.assert_raises(InvalidNumber, BAD, span, [row(1), [n(1), BAD]], 2)
        for function in (is_within, places):
            self.assert_raises(InvalidNumber, BAD, function, rows([1, 0], [1]), [BAD])
        self.assert_raises(InvalidNumber, BAD, told_by, row(1, 2), [row(1), [BAD]])
        self.assert_raises(InvalidNumber, BAD, relations, [row(1), row(1, 2), [BAD]])
        for function in (joined, met):
            self.assert_raises(InvalidNumber, BAD, function, rows([1, 2, 3]), [[BAD]], 2)


class SpansThatAreNoForms(Checks, unittest.TestCase):
    WRONG = [
        [row(2, 0)], [row(0, -1)], [row("1/2", 1)], [row(0, 0)], [row(1, 0), row(0, 0)], [row(0, 0), row(1, 0)],
        [row(0, 1), row(1, 0)], [row(1, 1), row(0, 1)], [row(1, 0), row(1, 0)], [row(1, 0), row(1, 1)],
        [row(1, 0), row(0, 2)], [row(1, 0), row(0, 1), row(0, 0)], [row(1, 0), row(0, 1), row(0, 1)],
    ]

    def test_one_span(self):
        for wrong in self.WRONG:
            for function in (is_within, places):
                self.assert_raises(InvalidSpan, wrong, function, wrong, row(1, 1))
                self.assert_raises(InvalidSpan, wrong, function, wrong, row(0, 0))

    def test_the_first_of_two_spans(self):
        right = [row(1, "-1/2")]
        for wrong in self.WRONG:
            for function in (joined, met):
                self.assert_raises(InvalidSpan, wrong, function, wrong, right, 2)
                self.assert_raises(InvalidSpan, wrong, function, right, wrong, 2)
                self.assert_raises(InvalidSpan, wrong, function, [], wrong, 2)
                self.assert_raises(InvalidSpan, wrong, function, wrong, [row(3, 0)], 2)

    def test_sizes_come_ahead_of_forms(self):
        for function in (is_within, places):
            self.assert_raises(InvalidRow, row(1), function, [row(2, 0)], row(1))
            self.assert_raises(InvalidNumber, BAD, function, [row(2, 0)], [BAD])
        for function in (joined, met):
            self.assert_raises(InvalidRow, row(1), function, [row(2, 0)], [row(1)], 2)
            self.assert_raises(InvalidNumber, BAD, function, [row(2, 0)], [[BAD]], 2)

    def test_rows_handed_in_twice_stand_apart_in_the_error(self):
        twice = row(2, 0)
        self.assert_raises(InvalidSpan, [row(2, 0)] * 2, joined, [twice, twice], [], 2)
