import unittest

from tests.helpers import Checks, n, row, rows
from toldproducts.errors import InvalidMap, InvalidNumber, InvalidRow
from toldproducts.keepers import (
    along, behind, bracket, come_to, first_not_kept, first_unlike_product, keepers, nucleus, taken_to_nothing,
)
from toldproducts.tables import Table

WRONG = [(2, 4), (1, 0), (1, -1), (-2, -3), (0, 2), (0, 0), (-3, 9)]
BAD, WORSE = (2, 4), (3, 6)
ONE = (1, 1)
TURN = Table([rows([1, 0], [0, 1]), rows([0, 1], [-1, 0])])
SINGLE = Table([[row("-1/2")]])
SAME = rows([1, 0], [0, 1])
UNEVEN = [[row(1), row(1, 2)], [row(1, 2), row(1)], [[], row(1)], [row(1, 2), row(3, 4), []]]


def not_kept(told):
    return (TURN, ONE, ONE, ONE, told)


# Each function with a map at a place, and good things at the others.
WITH_MAP = [
    (along, lambda told: (told, row(1, 2))), (behind, lambda told: (told, SAME)), (behind, lambda told: (SAME, told)),
    (bracket, lambda told: (told, SAME)), (bracket, lambda told: (SAME, told)), (first_not_kept, not_kept),
    (first_unlike_product, lambda told: (TURN, TURN, told)), (taken_to_nothing, lambda told: (told,)),
    (come_to, lambda told: (told,)),
]
WITHOUT_TABLE = [pair for pair in WITH_MAP if pair[0] not in (first_not_kept, first_unlike_product)]


class Numbers(Checks, unittest.TestCase):
    def test_every_wrong_tuple_in_every_function(self):
        for wrong in WRONG:
            for function, handed in WITH_MAP:
                self.assert_raises(InvalidNumber, wrong, function, *handed([row(1, 0), [n(0), wrong]]))
                self.assert_raises(InvalidNumber, wrong, function, *handed([[wrong]]))
            self.assert_raises(InvalidNumber, wrong, along, SAME, [n(0), wrong])
            for function, handed in [(keepers, ()), (first_not_kept, (SAME,))]:
                self.assert_raises(InvalidNumber, wrong, function, TURN, wrong, ONE, ONE, *handed)
                self.assert_raises(InvalidNumber, wrong, function, TURN, ONE, wrong, ONE, *handed)
                self.assert_raises(InvalidNumber, wrong, function, TURN, ONE, ONE, wrong, *handed)

    def test_the_first_of_several(self):
        for function, handed in WITH_MAP:
            self.assert_raises(InvalidNumber, BAD, function, *handed([[n(1), BAD], [WORSE, n(1)]]))
        for function, handed in [
            (along, ([[BAD]], [WORSE])), (behind, ([[BAD]], [[WORSE]])), (bracket, ([[BAD]], [[WORSE]])),
            (keepers, (TURN, BAD, WORSE, WORSE)), (keepers, (TURN, ONE, BAD, WORSE)),
            (first_not_kept, (TURN, ONE, ONE, BAD, [[WORSE]])), (first_not_kept, (TURN, BAD, ONE, ONE, [[WORSE]])),
        ]:
            self.assert_raises(InvalidNumber, BAD, function, *handed)

    def test_ahead_of_all_else(self):
        for function, handed in WITH_MAP:
            self.assert_raises(InvalidNumber, BAD, function, *handed([row(1), row(1, 2, 3), [BAD]]))
        for function, handed in [
            (along, ([row(1), row(1, 2)], [BAD])), (behind, ([row(1), row(1, 2)], [[BAD]])),
            (bracket, ([row(1), row(1, 2)], [[BAD]])), (first_not_kept, (TURN, ONE, ONE, BAD, [])),
        ]:
            self.assert_raises(InvalidNumber, BAD, function, *handed)


class Maps(Checks, unittest.TestCase):
    def test_by_tables(self):
        for wrong in [[], [[], []], rows([1, 0]), rows([1, 0], [0, 1], [0, 0]), rows([1, 0], [0]), [row(1), row(0, 1)],
                      rows([1, 0, 0], [0, 1, 0]), [row(1), row(2)], [row(1, 2), []]]:
            self.assert_raises(InvalidMap, wrong, first_not_kept, *not_kept(wrong))
            self.assert_raises(InvalidMap, wrong, first_unlike_product, TURN, TURN, wrong)

    def test_between_tables_of_unlike_sizes(self):
        for wrong in [SAME, [row(1)], [row(1, 2)], [row(1), row(2), row(3)], [], [[], []]]:
            self.assert_raises(InvalidMap, wrong, first_unlike_product, TURN, SINGLE, wrong)
        for wrong in [SAME, [row(1)], [row(1), row(2)], [row(1, 2, 3)], rows([1, 2], [1, 2], [1, 2])]:
            self.assert_raises(InvalidMap, wrong, first_unlike_product, SINGLE, TURN, wrong)

    def test_rows_unlike_in_length(self):
        for wrong in UNEVEN:
            for function, handed in WITHOUT_TABLE:
                self.assert_raises(InvalidMap, wrong, function, *handed(wrong))

    def test_of_the_one_before_the_other_one(self):
        for wrong in UNEVEN:
            for function in (behind, bracket):
                self.assert_raises(InvalidMap, wrong, function, wrong, [row(5), row(5, 6)])
                # The other one's own rows are looked at ahead of how the two fit.
                self.assert_raises(InvalidMap, wrong, function, rows([1, 0]), wrong)

    def test_behind(self):
        for one, other in [(SAME, [row(1)]), (SAME, rows([1, 2, 3])), ([row(1)], SAME), (rows([1, 2, 3]), SAME),
                           (SAME, [[]]), (rows([1], [2], [3]), rows([1, 2], [3, 4], [5, 6]))]:
            self.assert_raises(InvalidMap, other, behind, one, other)
        self.assertEqual(behind(SAME, rows([5, 6], [7, 8], [9, 9])), rows([5, 6], [7, 8], [9, 9]))

    def test_bracket(self):
        for one in [rows([1, 0]), rows([1], [2]), rows([1, 0, 0], [0, 1, 0]), rows([1, 0], [0, 1], [0, 0])]:
            self.assert_raises(InvalidMap, one, bracket, one, SAME)
            self.assert_raises(InvalidMap, one, bracket, one, one)
            self.assert_raises(InvalidMap, one, bracket, one, [row(1)])
            self.assert_raises(InvalidMap, one, bracket, SAME, one)
        for one, other in [(SAME, [row(1)]), ([row(1)], SAME), (SAME, rows([1, 0, 0], [0, 1, 0], [0, 0, 1]))]:
            self.assert_raises(InvalidMap, other, bracket, one, other)

    def test_rows_at_several_places_stand_apart_in_the_error(self):
        twice = row(1)
        self.assert_raises(InvalidMap, rows([1], [1]), first_not_kept, *not_kept([twice, twice]))
        self.assert_raises(InvalidMap, rows([1], [1]), behind, SAME, [twice, twice])


class Along(Checks, unittest.TestCase):
    def test_sizes(self):
        for wrong in ([], row(1), row(1, 2, 3)):
            self.assert_raises(InvalidRow, wrong, along, SAME, wrong)
            self.assert_raises(InvalidRow, wrong, along, rows([1, 2, 3], [4, 5, 6]), wrong)

    def test_the_map_comes_ahead_of_the_row(self):
        for wrong in UNEVEN:
            self.assert_raises(InvalidMap, wrong, along, wrong, row(1, 2, 3, 4, 5))


class Sides(Checks, unittest.TestCase):
    def test_0_1_2(self):
        for side in (-2, -1, 3, 4, 100):
            self.assert_raises(InvalidNumber, side, nucleus, TURN, side)

    def test_by_name(self):
        for function, handed, kind, value in [
            (nucleus, {"side": 3, "table": TURN}, InvalidNumber, 3),
            (along, {"row": row(1), "told": SAME}, InvalidRow, row(1)),
            (behind, {"other": [row(1)], "one": SAME}, InvalidMap, [row(1)]),
            (first_unlike_product, {"other": SINGLE, "table": TURN, "told": SAME}, InvalidMap, SAME),
            (keepers, {"w": ONE, "v": BAD, "u": ONE, "table": TURN}, InvalidNumber, BAD),
        ]:
            with self.assertRaises(kind) as caught:
                function(**handed)
            self.assertEqual(caught.exception.value, value)

    def test_an_error_changes_no_table(self):
        before = TURN.products
        for function, handed in [(nucleus, (TURN, 3)), (first_not_kept, not_kept([])), (keepers, (TURN, BAD, ONE, ONE))]:
            with self.assertRaises(ValueError):
                function(*handed)
        self.assertEqual(TURN.products, before)
