import unittest

from tests.helpers import Checks, n, row, rows
from toldproducts.errors import InvalidBasis, InvalidMap, InvalidNumber, InvalidRow, InvalidTable, UnlikeSizes
from toldproducts.tables import (
    Table, both_ways, blended, changed, left_map, over, right_map,
)

WRONG = [(2, 4), (1, 0), (1, -1), (-2, -3), (0, 2), (0, 0), (-3, 9)]
BAD, WORSE = (2, 4), (3, 6)
TURN = Table([rows([1, 0], [0, 1]), rows([0, 1], [-1, 0])])
SINGLE = Table([[row("-1/2")]])


class NumbersThatAreNone(Checks, unittest.TestCase):
    def test_every_wrong_tuple_in_every_function(self):
        for wrong in WRONG:
            for function, handed in [
                (Table, ([[[wrong]]],)), (TURN, ([wrong, n(1)], row(1, 1))), (TURN, (row(1, 1), [n(1), wrong])),
                (left_map, (TURN, [n(0), wrong])), (right_map, (TURN, [n(0), wrong])),
                (both_ways, (TURN, wrong)), (blended, (TURN, TURN, wrong)),
                (over, (TURN, [row(1, 0), [n(0), wrong]])),
                (changed, (TURN, [row(1, 0), [n(0), wrong]], rows([1, 0], [0, 1]))),
                (changed, (TURN, rows([1, 0], [0, 1]), [row(1, 0), [n(0), wrong]])),
            ]:
                self.assert_raises(InvalidNumber, wrong, function, *handed)

    def test_the_first_of_several(self):
        for function, handed in [
            (Table, ([[row(1, 0), [n(1), BAD]], [[WORSE, WORSE], row(1, 1)]],)),
            (TURN, ([n(0), BAD], [WORSE, WORSE])), (TURN, (row(0, 0), [BAD, WORSE])),
            (left_map, (TURN, [BAD, WORSE])), (right_map, (TURN, [BAD, WORSE])),
            (over, (TURN, [[n(0), BAD], [WORSE, n(1)]])), (changed, (TURN, [[n(0), BAD], row(0, 0)], [[WORSE]])),
            (changed, (TURN, rows([1, 0], [0, 1]), [[n(0), BAD], [WORSE]])),
        ]:
            self.assert_raises(InvalidNumber, BAD, function, *handed)


class TablesThatAreNone(Checks, unittest.TestCase):
    def test_counts(self):
        for products in [
            [], [[]], [[[]]], [[row(1, 2)]], [[row(1), row(1)]], [[row(1)], [row(1)]],
            [rows([1, 0], [0, 1]), rows([0, 1])], [rows([1, 0], [0, 1]), rows([0, 1], [1])],
            [rows([1, 0], [0, 1]), rows([0, 1], [1, 0, 0])], [rows([1, 0], [0, 1]), rows([0, 1], [1, 0], [1, 0])],
            [rows([1, 0], [0, 1])] * 3, [rows([1, 0, 0], [0, 1, 0])] * 2, [[], []], [[row(1)], []],
        ]:
            self.assert_raises(InvalidTable, products, Table, products)

    def test_numbers_come_ahead_of_counts(self):
        self.assert_raises(InvalidNumber, BAD, Table, [[row(1, 2)], [[n(1), BAD]]])
        self.assert_raises(InvalidNumber, BAD, Table, [[], [[], [BAD]]])

    def test_by_name(self):
        with self.assertRaises(InvalidTable) as caught:
            Table(products=[[]])
        self.assertEqual(caught.exception.value, [[]])

    def test_one_list_at_several_places_stands_apart_in_the_error(self):
        twice = row(1, 0)
        self.assert_raises(InvalidTable, [[row(1, 0)] * 2], Table, [[twice, twice]])
        lists = [twice, twice]
        self.assert_raises(InvalidTable, [[row(1, 0)] * 2] * 3, Table, [lists, lists, lists])


class SizesThatAreWrong(Checks, unittest.TestCase):
    def test_product(self):
        for wrong in ([], row(1), row(1, 2, 3)):
            self.assert_raises(InvalidRow, wrong, TURN, wrong, row(1, 2))
            self.assert_raises(InvalidRow, wrong, TURN, row(1, 2), wrong)
            self.assert_raises(InvalidRow, wrong, TURN, wrong, row(1, 2, 3, 4))
            self.assert_raises(InvalidNumber, BAD, TURN, wrong, [BAD])
        with self.assertRaises(InvalidRow) as caught:
            TURN(other=row(1, 2), one=row(4))
        self.assertEqual(caught.exception.value, row(4))

    def test_maps_of_a_row(self):
        for function in (left_map, right_map):
            for wrong in ([], row(1), row(1, 2, 3)):
                self.assert_raises(InvalidRow, wrong, function, TURN, wrong)
            self.assert_raises(InvalidNumber, BAD, function, TURN, [BAD])

    def test_blended(self):
        self.assert_raises(UnlikeSizes, 1, blended, TURN, SINGLE, (1, 1))
        self.assert_raises(UnlikeSizes, 2, blended, SINGLE, TURN, (1, 1))
        self.assert_raises(InvalidNumber, BAD, blended, SINGLE, TURN, BAD)

    def test_over(self):
        self.assert_raises(InvalidRow, row(1), over, TURN, rows([1, 0], [1], [1, 2, 3]))
        self.assert_raises(InvalidRow, [], over, TURN, [[], []])
        self.assert_raises(InvalidNumber, BAD, over, TURN, [row(1), [BAD]])
        for wrong in [[], rows([1, 0]), rows([1, 2], [2, 4]), rows([1, 0], [0, 0]), rows([0, 0], [0, 0]),
                      rows([1, 0], [0, 1], [1, 1]), rows([1, 0], [0, 1], [0, 0])]:
            self.assert_raises(InvalidBasis, wrong, over, TURN, wrong)
        self.assert_raises(InvalidRow, row(1), over, TURN, rows([1, 2], [2, 4], [1]))
        self.assert_raises(InvalidBasis, [row(0)], over, SINGLE, [row(0)])

    def test_changed(self):
        still = rows([1, 0], [0, 1])
        for wrong in [[], [[], []], rows([1, 0]), rows([1, 0], [0, 1], [0, 0]), rows([1, 0], [0]),
                      rows([1, 0, 0], [0, 1, 0]), [row(1), row(2)]]:
            self.assert_raises(InvalidMap, wrong, changed, TURN, wrong, still)
            self.assert_raises(InvalidMap, wrong, changed, TURN, still, wrong)
            self.assert_raises(InvalidMap, wrong, changed, TURN, wrong, [row(9)])
            self.assert_raises(InvalidNumber, BAD, changed, TURN, wrong, [[BAD]])

    def test_an_error_changes_no_table(self):
        before = TURN.products
        for function, handed in [(TURN, (row(1), row(1, 2))), (over, (TURN, [])), (changed, (TURN, [], []))]:
            with self.assertRaises(ValueError):
                function(*handed)
        self.assertEqual(TURN.products, before)
