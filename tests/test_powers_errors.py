import unittest

from tests.helpers import Checks, n, row, rows
from tests.test_parts_errors import BAD, WORSE, WRONG
from toldproducts.errors import InvalidNumber, InvalidRow
from toldproducts.powers import (
    comes_again, first_nothing, first_unlike_power, least_row, power, powers, solved, turned_power, turned_solved,
)
from toldproducts.tables import Table

TURN = Table([rows([1, 0], [0, 1]), rows([0, 1], [-1, 0])])
SINGLE = Table([[row(2)]])
# Each function with a row at a place, and good things at the others.
WITH_ROW = [(function, lambda entries: (TURN, entries)) for function in (
    least_row, first_nothing, comes_again, first_unlike_power)] + [
    (function, lambda entries: (TURN, entries, 2)) for function in (power, turned_power, powers)] + [
    (function, lambda entries: (TURN, entries, row(1, 2))) for function in (solved, turned_solved)] + [
    (function, lambda entries: (TURN, row(1, 2), entries)) for function in (solved, turned_solved)]
WITH_TWO = (solved, turned_solved)
WITH_COUNT = [(power, 0), (turned_power, 0), (powers, -1)]


class Numbers(Checks, unittest.TestCase):
    def test_every_wrong_tuple_in_every_function(self):
        for wrong in WRONG:
            for function, handed in WITH_ROW:
                for entries in ([wrong, n(1)], [n(1), wrong], [wrong], [n(1), n(2), n(3), wrong]):
                    self.assert_raises(InvalidNumber, wrong, function, *handed(entries))

    def test_the_first_of_several(self):
        for function, handed in WITH_ROW:
            self.assert_raises(InvalidNumber, BAD, function, *handed([BAD, WORSE]))
        for function in WITH_TWO:
            self.assert_raises(InvalidNumber, BAD, function, TURN, [n(1), BAD], [WORSE, n(1)])
            self.assert_raises(InvalidNumber, BAD, function, TURN, row(0, 0), [n(1), BAD, WORSE])

    def test_ahead_of_sizes_and_counts(self):
        for function, count in WITH_COUNT:
            self.assert_raises(InvalidNumber, BAD, function, TURN, [BAD], count)
        for function in WITH_TWO:
            self.assert_raises(InvalidNumber, BAD, function, TURN, row(1), [n(1), BAD])


class Sizes(Checks, unittest.TestCase):
    def test_every_wrong_size(self):
        for wrong in ([], row(1), row(1, 2, 3)):
            for function, handed in WITH_ROW:
                self.assert_raises(InvalidRow, wrong, function, *handed(wrong))
        for function, count in WITH_COUNT:
            self.assert_raises(InvalidRow, row(1, 2), function, SINGLE, row(1, 2), 1)
            self.assert_raises(InvalidRow, row(1, 2), function, SINGLE, row(1, 2), count)

    def test_the_first_of_two(self):
        for function in WITH_TWO:
            self.assert_raises(InvalidRow, row(1), function, TURN, row(1), row(1, 2, 3))
            self.assert_raises(InvalidRow, row(1, 2, 3), function, TURN, row(1, 2), row(1, 2, 3))


class Counts(Checks, unittest.TestCase):
    def test_below_the_least(self):
        for function, least in [(power, 1), (turned_power, 1), (powers, 0)]:
            for count in (least - 1, least - 2, -100):
                self.assert_raises(InvalidNumber, count, function, TURN, row(1, 2), count)
                self.assert_raises(InvalidNumber, count, function, TURN, row(0, 0), count)

    def test_by_name(self):
        for function, handed, kind, value in [
            (power, {"times": 0, "row": row(1, 2), "table": TURN}, InvalidNumber, 0),
            (turned_power, {"times": -3, "row": row(1, 2), "table": TURN}, InvalidNumber, -3),
            (powers, {"many": -1, "row": row(1, 2), "table": TURN}, InvalidNumber, -1),
            (powers, {"many": -1, "row": row(1), "table": TURN}, InvalidRow, row(1)),
            (solved, {"other": row(1), "one": row(1, 2), "table": TURN}, InvalidRow, row(1)),
            (turned_solved, {"other": [BAD], "one": row(1), "table": TURN}, InvalidNumber, BAD),
            (least_row, {"row": [], "table": TURN}, InvalidRow, []),
        ]:
            with self.assertRaises(kind) as caught:
                function(**handed)
            self.assertEqual(caught.exception.value, value)

    def test_an_error_changes_no_table(self):
        before = TURN.products
        for function, handed in [(power, (TURN, row(1, 2), 0)), (solved, (TURN, row(1), row(1))), (least_row, (TURN, [BAD]))]:
            with self.assertRaises(ValueError):
                function(*handed)
        self.assertEqual(TURN.products, before)
