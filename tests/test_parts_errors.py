import unittest

from tests.helpers import Checks, n, row, rows
from toldproducts.errors import InvalidNumber, InvalidRow, InvalidSpan, NotTwoSided, NotWithin
from toldproducts.parts import (
    goes_between, grown, held_by, is_part, is_two_sided, killers, led_down, left_over, left_part, part, part_table,
    products_of, right_part, two_sided,
)
from toldproducts.tables import Table

WRONG = [(2, 4), (1, 0), (1, -1), (-2, -3), (0, 2), (0, 0), (-3, 9)]
BAD, WORSE = (2, 4), (3, 6)
SECOND = Table([rows([1, 0], [0, 1]), rows([1, 0], [0, 1])])
SIDE, WHOLE, NO_PART = rows([1, -1]), rows([1, 0], [0, 1]), rows([1, 0])
TURN = Table([rows([1, 0], [0, 1]), rows([0, 1], [-1, 0])])
NO_FORMS = [
    rows([2, 0]), rows([0, 0]), rows([0, 1], [1, 0]), rows([1, 1], [0, 1]), rows([1, 0], [0, 0]), rows([1, 0], [0, 2]),
    rows([1, 0], [1, 0]), [row(1)], [[]], rows([1, 0, 0]), [row(1, 0), row(0)], [row(1), row(0, 1)], [row(1, 0), []],
    rows([1, 0], [0, 1], [0, 0]), [row(1, 0), row(0, 1, 0)],
]
# Each function with a list of rows, or a span, at a place, and good things at the others.
WITH_ROWS = [(function, lambda lists: (SECOND, lists)) for function in (part, left_part, right_part, two_sided, grown)]
WITH_SPAN = [(function, lambda lists: (SECOND, lists)) for function in (
    is_part, is_two_sided, killers, held_by, part_table, left_over)] + [
    (products_of, lambda lists: (SECOND, lists, rows([1, 0]))), (products_of, lambda lists: (SECOND, rows([1, 0]), lists)),
    (led_down, lambda lists: (SECOND, lists, row(1, 2))), (goes_between, lambda lists: (SECOND, lists, WHOLE, row(1, 2))),
    (goes_between, lambda lists: (SECOND, WHOLE, lists, row(1, 2))),
]
WITH_ROW = [
    (led_down, lambda entries: (SECOND, SIDE, entries)), (goes_between, lambda entries: (SECOND, WHOLE, [], entries)),
]


class Numbers(Checks, unittest.TestCase):
    def test_every_wrong_tuple_in_every_function(self):
        for wrong in WRONG:
            for function, handed in WITH_ROWS + WITH_SPAN:
                self.assert_raises(InvalidNumber, wrong, function, *handed([row(1, 0), [n(0), wrong]]))
                self.assert_raises(InvalidNumber, wrong, function, *handed([[wrong]]))
            for function, handed in WITH_ROW:
                self.assert_raises(InvalidNumber, wrong, function, *handed([n(1), wrong]))

    def test_the_first_of_several(self):
        for function, handed in WITH_ROWS + WITH_SPAN:
            self.assert_raises(InvalidNumber, BAD, function, *handed([[n(1), BAD], [WORSE, n(1)]]))
        for function, handed in [
            (products_of, (SECOND, [[BAD]], [[WORSE]])), (led_down, (SECOND, [[n(1), BAD]], [WORSE, n(1)])),
            (goes_between, (SECOND, [[BAD]], [[WORSE]], [WORSE])), (goes_between, (SECOND, [], [[BAD]], [WORSE])),
        ]:
            self.assert_raises(InvalidNumber, BAD, function, *handed)

    def test_ahead_of_all_else(self):
        for function, handed in WITH_ROWS:
            self.assert_raises(InvalidNumber, BAD, function, *handed([row(1), row(1, 2, 3), [BAD]]))
        for function, handed in [
            (products_of, (SECOND, rows([2, 0]), [[BAD, n(1)]])), (part_table, (SECOND, [row(1), [n(0), BAD]])),
            (left_over, (SECOND, [row(0, 0), [BAD]])), (led_down, (SECOND, rows([2, 0]), [BAD])),
            (led_down, (SECOND, NO_PART, [n(1), BAD])), (goes_between, (SECOND, rows([2, 0]), [row(1)], [BAD])),
        ]:
            self.assert_raises(InvalidNumber, BAD, function, *handed)


class Sizes(Checks, unittest.TestCase):
    def test_rows(self):
        for wrong in ([], row(1), row(1, 2, 3)):
            for function, handed in WITH_ROWS:
                self.assert_raises(InvalidRow, wrong, function, *handed([row(1, 2), wrong, row(4)]))
                self.assert_raises(InvalidRow, wrong, function, *handed([wrong]))
            for function, handed in WITH_ROW:
                self.assert_raises(InvalidRow, wrong, function, *handed(wrong))

    def test_ahead_of_spans(self):
        for form in NO_FORMS + [NO_PART, WHOLE]:
            self.assert_raises(InvalidRow, row(1), led_down, SECOND, form, row(1))
            self.assert_raises(InvalidRow, row(1), goes_between, SECOND, form, form, row(1))


class Spans(Checks, unittest.TestCase):
    def test_what_is_no_form(self):
        for form in NO_FORMS:
            for function, handed in WITH_SPAN:
                self.assert_raises(InvalidSpan, form, function, *handed(form))

    def test_the_first_of_two(self):
        for form in NO_FORMS:
            self.assert_raises(InvalidSpan, form, products_of, SECOND, form, [row(9)])
            self.assert_raises(InvalidSpan, form, goes_between, SECOND, form, [row(9)], row(1, 2))

    def test_rows_at_several_places_stand_apart_in_the_error(self):
        twice = row(1, 0)
        self.assert_raises(InvalidSpan, rows([1, 0], [1, 0]), is_part, SECOND, [twice, twice])

    def test_no_part(self):
        self.assert_raises(NotWithin, rows([0, 1]), part_table, TURN, rows([0, 1]))
        still = Table([rows([0, 1], [0, 0]), rows([0, 0], [0, 0])])
        self.assert_raises(NotWithin, rows([1, 1]), part_table, still, rows([1, 1]))
        self.assert_raises(InvalidSpan, [], part_table, TURN, [])

    def test_not_two_sided(self):
        for form in (NO_PART, rows([0, 1]), rows([1, 5])):
            self.assert_raises(NotTwoSided, form, left_over, SECOND, form)
            self.assert_raises(NotTwoSided, form, led_down, SECOND, form, row(1, 2))
        # Two-sided on one side alone.
        left = Table([rows([1, 0], [1, 0]), rows([0, 1], [0, 1])])
        self.assert_raises(NotTwoSided, rows([1, 0]), left_over, left, rows([1, 0]))

    def test_all_rows(self):
        self.assert_raises(InvalidSpan, WHOLE, left_over, SECOND, WHOLE)
        self.assert_raises(InvalidSpan, WHOLE, led_down, SECOND, WHOLE, row(1, 2))
        self.assert_raises(InvalidSpan, [row(1)], left_over, Table([[row(0)]]), [row(1)])
        self.assert_raises(InvalidSpan, [row(1)], led_down, Table([[row(0)]]), [row(1)], row(5))

    def test_by_name(self):
        for function, handed, value in [
            (products_of, {"table": SECOND, "one": rows([2, 0]), "other": []}, rows([2, 0])),
            (led_down, {"table": SECOND, "span": rows([2, 0]), "row": row(1, 2)}, rows([2, 0])),
            (goes_between, {"table": SECOND, "one": [], "other": rows([2, 0]), "row": row(1, 2)}, rows([2, 0])),
            (killers, {"table": SECOND, "span": rows([2, 0])}, rows([2, 0])),
        ]:
            with self.assertRaises(InvalidSpan) as caught:
                function(**handed)
            self.assertEqual(caught.exception.value, value)

    def test_an_error_changes_no_table(self):
        before = SECOND.products
        for function, handed in [(part, (SECOND, [row(1)])), (left_over, (SECOND, WHOLE)), (part_table, (SECOND, []))]:
            with self.assertRaises(ValueError):
                function(*handed)
        self.assertEqual(SECOND.products, before)
