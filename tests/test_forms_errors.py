import unittest

from tests.helpers import Checks, n, row, rows
from tests.test_parts_errors import BAD, NO_FORMS, WORSE, WRONG
from toldproducts.errors import InvalidForm, InvalidNumber, InvalidRow, InvalidSpan
from toldproducts.forms import across, first_not_moved, form_worth, is_even, null_span
from toldproducts.tables import Table

TURN = Table([rows([1, 0], [0, 1]), rows([0, 1], [-1, 0])])
SAME = rows([1, 0], [0, 1])
# Each function with a form at a place, and good or wrong things at the others.
ALONE = [(is_even, lambda form: (form,)), (null_span, lambda form: (form, 0)), (null_span, lambda form: (form, 1)),
         (form_worth, lambda form: (form, row(1, 2), row(3, 4)))]
BY_TABLE = [(first_not_moved, lambda form: (TURN, form)), (across, lambda form: (TURN, form, rows([1, 2]))),
            (across, lambda form: (TURN, form, []))]
WRONG_BEHIND = [(null_span, lambda form: (form, 2)), (form_worth, lambda form: (form, row(1), row(1, 2, 3, 4, 5, 6, 7))),
                (across, lambda form: (TURN, form, rows([2, 0]))), (across, lambda form: (TURN, form, [row(1)]))]
ALL = ALONE + BY_TABLE + WRONG_BEHIND
# Rows that are no form, of whatever size.
UNEVEN = [rows([1, 0]), rows([1], [2]), [row(1, 0), row(1)], [row(1), row(1, 0)], [row(1, 0), []], [[]],
          rows([1, 0, 0], [0, 1, 0]), rows([1, 0], [0, 1], [0, 0]), [row(1, 0), row(0, 1, 0)]]
# Forms, but not of two rows.
OF_OTHER_SIZES = [[row(1)], rows([1, 0, 0], [0, 1, 0], [0, 0, 1]), []]


class Numbers(Checks, unittest.TestCase):
    def test_every_wrong_tuple_in_every_function(self):
        for wrong in WRONG:
            for function, handed in ALL:
                for form in ([row(1, 0), [n(0), wrong]], [[wrong]], [row(1, 0), [], [wrong]]):
                    self.assert_raises(InvalidNumber, wrong, function, *handed(form))
            for at in range(2):
                for form in (SAME, rows([1, 0])):
                    ends = [row(1, 2), row(1, 2)]
                    ends[at] = [n(1), wrong]
                    self.assert_raises(InvalidNumber, wrong, form_worth, form, *ends)
            for form in (SAME, rows([1, 0])):
                self.assert_raises(InvalidNumber, wrong, across, TURN, form, [row(2), [wrong]])

    def test_the_first_of_several(self):
        for function, handed in ALL:
            self.assert_raises(InvalidNumber, BAD, function, *handed([[n(1), BAD], [WORSE, n(1)]]))
        self.assert_raises(InvalidNumber, BAD, form_worth, [row(1, 0), [n(1), BAD]], [WORSE], [WORSE])
        self.assert_raises(InvalidNumber, BAD, form_worth, SAME, [n(1), BAD], [WORSE, n(1)])
        self.assert_raises(InvalidNumber, BAD, form_worth, SAME, row(0, 0), [BAD, WORSE])
        self.assert_raises(InvalidNumber, BAD, across, TURN, [[BAD]], [[WORSE]])


class Forms(Checks, unittest.TestCase):
    def test_uneven_ones(self):
        for form in UNEVEN:
            for function, handed in ALL:
                self.assert_raises(InvalidForm, form, function, *handed(form))

    def test_of_other_sizes_than_the_table(self):
        for form in OF_OTHER_SIZES:
            for function, handed in BY_TABLE:
                self.assert_raises(InvalidForm, form, function, *handed(form))
            self.assertIs(is_even(form), True)

    def test_rows_at_several_places_stand_apart_in_the_error(self):
        twice = row(1)
        self.assert_raises(InvalidForm, rows([1], [1]), is_even, [twice, twice])
        self.assert_raises(InvalidForm, rows([1], [1]), first_not_moved, TURN, [twice, twice])


class RowsSpansSides(Checks, unittest.TestCase):
    def test_rows(self):
        for wrong in ([], row(1), row(1, 2, 3)):
            self.assert_raises(InvalidRow, wrong, form_worth, SAME, wrong, row(1, 2))
            self.assert_raises(InvalidRow, wrong, form_worth, SAME, row(1, 2), wrong)
            self.assert_raises(InvalidRow, wrong, form_worth, SAME, wrong, row(5, 5, 5, 5))

    def test_spans(self):
        for form in NO_FORMS:
            self.assert_raises(InvalidSpan, form, across, TURN, SAME, form)
        twice = row(1, 0)
        self.assert_raises(InvalidSpan, rows([1, 0], [1, 0]), across, TURN, SAME, [twice, twice])

    def test_sides(self):
        for side in (-2, -1, 2, 3, 100):
            self.assert_raises(InvalidNumber, side, null_span, SAME, side)
            self.assert_raises(InvalidNumber, side, null_span, [row(0)], side)

    def test_by_name(self):
        for function, handed, kind, value in [
            (form_worth, {"other": row(1), "one": row(1, 2), "form": SAME}, InvalidRow, row(1)),
            (null_span, {"side": 2, "form": SAME}, InvalidNumber, 2),
            (is_even, {"form": rows([1, 2])}, InvalidForm, rows([1, 2])),
            (first_not_moved, {"form": [row(1)], "table": TURN}, InvalidForm, [row(1)]),
            (across, {"span": rows([2, 0]), "form": SAME, "table": TURN}, InvalidSpan, rows([2, 0])),
        ]:
            with self.assertRaises(kind) as caught:
                function(**handed)
            self.assertEqual(caught.exception.value, value)

    def test_an_error_changes_no_table(self):
        before = TURN.products
        for function, handed in [(across, (TURN, SAME, rows([2, 0]))), (first_not_moved, (TURN, []))]:
            with self.assertRaises(ValueError):
                function(*handed)
        self.assertEqual(TURN.products, before)
