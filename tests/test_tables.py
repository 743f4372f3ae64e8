import copy
import unittest

from tests.helpers import (
    Checks, any_number, any_products, any_row, any_rows, n, plain_form, plain_product, plain_sum, row, rows, some, spoil,
)
from toldproducts.rows import is_within, noughts, relations, span, sum_of, times, told_by, unit
from toldproducts.tables import (
    Table, beside, both_ways, blended, changed, crossed, left_map, left_ones, ones, opposite, over, right_map,
    right_ones, with_one,
)

GREAT = 10 ** 400 + 69
TURN = [rows([1, 0], [0, 1]), rows([0, 1], [-1, 0])]
SECOND = [rows([1, 0], [0, 1]), rows([1, 0], [0, 1])]
STILL = [rows([0, 1], [0, 0]), rows([0, 0], [0, 0])]
# Squares of two rows each: units 11, 12, 21, 22.
SQUARES = [[[n(1) if (b, a, d) == (c, at // 2, at % 2) else n(0) for at in range(4)]
            for c in range(2) for d in range(2)] for a in range(2) for b in range(2)]


def any_table(source, size, most=9, below=4):
    return Table(any_products(source, size, most, below))


def any_basis(source, size, most=3, below=1):
    while True:
        lists = any_rows(source, size, size, most, below)
        if len(plain_form(lists)) == size:
            return lists


def nought_table(size):
    return Table([[noughts(size) for _ in range(size)] for _ in range(size)])


class Products(Checks, unittest.TestCase):
    def test_as_passed(self):
        for size in range(1, 7):
            products = any_products(some(size), size, 9999, 9999)
            table = Table([[list(entries) for entries in lists] for lists in products])
            self.assertEqual([table.size, table.products], [size, products])
            self.assertEqual(Table(products=products), table)
            for i in range(size):
                for j in range(size):
                    self.assertEqual(table(unit(size, i), unit(size, j)), products[i][j])

    def test_lists_are_new(self):
        handed = copy.deepcopy(TURN)
        table = Table(handed)
        self.assertEqual(handed, TURN)
        self.assert_new([table.products, table.products], handed)
        spoil(table.products)
        self.assertEqual(table.products, TURN)
        spoil(handed)
        self.assertEqual([table.products, table.size], [TURN, 2])
        self.assertEqual(table(row(0, 1), row(0, 2)), row(-2, 0))

    def test_one_list_at_several_places(self):
        zero = noughts(2)
        table = Table([[zero, zero]] * 2)
        self.assert_new(table.products)
        self.assertEqual(table, nought_table(2))

    def test_properties_are_not_set(self):
        table = Table(TURN)
        for name in ("size", "products"):
            with self.assertRaises(AttributeError):
                setattr(table, name, 1)
        self.assertEqual(table, Table(TURN))

    def test_product_of_rows(self):
        source = some(1)
        for size in (1, 2, 3, 4, 5, 6):
            for most, below in [(2, 1), (9999, 9999)]:
                products = any_products(source, size, most, below)
                one, other = any_row(source, size, most, below), any_row(source, size, most, below)
                told = self.check_call(Table(products), {"one": list(one), "other": list(other)})
                self.assert_row_like(told, plain_product(products, one, other))

    def test_product_of_noughts_and_great_numbers(self):
        table = Table(TURN)
        self.assert_row_like(table(noughts(2), row(3, "1/2")), row(0, 0))
        self.assertEqual(table([n(GREAT), n(0)], [n(1, GREAT), n(GREAT)]), [n(1), n(GREAT * GREAT)])
        one = [n(GREAT, 7), n(1, GREAT)]
        self.assertEqual(table(table(one, one), one), plain_product(TURN, plain_product(TURN, one, one), one))
        great = Table([[[n(GREAT, GREAT + 1)]]])
        self.assertEqual(great([n(GREAT + 1)], [n(1, GREAT)]), row(1))

    def test_half_numbers(self):
        self.assertEqual(Table([[row("-1/2")]])(row("-1/2"), row("2/3")), row("1/6"))

    def test_product_is_not_taken_to_be_in_order(self):
        table = Table(SECOND)
        self.assertEqual(table(row(1, 0), row(0, 1)), row(0, 1))
        self.assertEqual(table(row(0, 1), row(1, 0)), row(1, 0))

    def test_equal(self):
        self.assertTrue(Table(TURN) == Table(copy.deepcopy(TURN)))
        self.assertFalse(Table(TURN) != Table(TURN))
        self.assertFalse(Table(TURN) == Table(SECOND))
        self.assertTrue(Table(TURN) != Table(SECOND))
        self.assertFalse(nought_table(1) == nought_table(2))

    def test_not_equal_to_anything_else(self):
        class Like:
            def __eq__(self, other):
                return True

        for thing in [None, 0, "", TURN, (), {}, Table, [Table(TURN)], ValueError(), Like()]:
            self.assertIs(Table(TURN) == thing, False)
            self.assertIs(Table(TURN) != thing, True)


class TablesOfOthers(Checks, unittest.TestCase):
    def test_maps_of_a_row(self):
        source = some(2)
        for size in (1, 3, 6):
            table, entries = any_table(source, size, 9999, 9999), any_row(source, size, 9999, 9999)
            products = table.products
            units = [unit(size, at) for at in range(size)]
            self.assertEqual(self.check_call(left_map, {"table": table, "row": list(entries)}),
                             [plain_product(products, entries, one) for one in units])
            self.assertEqual(self.check_call(right_map, {"table": table, "row": list(entries)}),
                             [plain_product(products, one, entries) for one in units])
        self.assertEqual(left_map(Table(SECOND), row(1, 2)), rows([3, 0], [0, 3]))
        self.assertEqual(right_map(Table(SECOND), row(1, 2)), rows([1, 2], [1, 2]))
        self.assertEqual(left_map(Table(TURN), noughts(2)), rows([0, 0], [0, 0]))

    def test_opposite(self):
        source = some(3)
        for size in (1, 2, 6):
            table = any_table(source, size)
            turned = self.check_call(opposite, {"table": table})
            self.assertEqual(turned.products, [[table.products[j][i] for j in range(size)] for i in range(size)])
            self.assertEqual(opposite(turned), table)
            one, other = any_row(source, size), any_row(source, size)
            self.assertEqual(turned(one, other), table(other, one))

    def test_both_ways(self):
        source = some(4)
        for size in (1, 2, 6):
            table, number = any_table(source, size), any_number(source, 9, 9)
            both = self.check_call(both_ways, {"table": table, "number": number})
            one, other = any_row(source, size), any_row(source, size)
            self.assertEqual(both(one, other), sum_of(table(one, other), times(number, table(other, one))))
            self.assertEqual(both_ways(table, (0, 1)), table)
        self.assertEqual(both_ways(Table(TURN), (-1, 1)), nought_table(2))

    def test_blended(self):
        source = some(5)
        for size in (1, 2, 6):
            first, second, number = any_table(source, size), any_table(source, size), any_number(source, 9, 9)
            blend = self.check_call(blended, {"one": first, "other": second, "number": number})
            one, other = any_row(source, size), any_row(source, size)
            self.assertEqual(blend(one, other), sum_of(first(one, other), times(number, second(one, other))))
            self.assertEqual(blended(first, first, (-1, 1)), nought_table(size))

    def test_beside(self):
        source = some(6)
        for size, more in [(1, 1), (2, 1), (1, 2), (2, 4), (5, 1), (3, 3)]:
            first, second = any_table(source, size), any_table(source, more)
            both = self.check_call(beside, {"one": first, "other": second})
            self.assertEqual(both.size, size + more)
            a, b, c, d = (any_row(source, many) for many in (size, more, size, more))
            self.assertEqual(both(a + b, c + d), first(a, c) + second(b, d))
            self.assertEqual(both(a + noughts(more), noughts(size) + d), noughts(size + more))

    def test_crossed(self):
        source = some(7)
        for size, more in [(1, 1), (1, 6), (6, 1), (2, 3), (3, 2), (2, 2)]:
            first, second = any_table(source, size), any_table(source, more)
            both = self.check_call(crossed, {"one": first, "other": second})
            self.assertEqual(both.size, size * more)

            def pair(one, other):
                return [times(a, [b])[0] for a in one for b in other]

            a, b, c, d = (any_row(source, many) for many in (size, more, size, more))
            self.assertEqual(both(pair(a, b), pair(c, d)), pair(first(a, c), second(b, d)))
            for i in range(size):
                for j in range(more):
                    self.assertEqual(unit(size * more, i * more + j), pair(unit(size, i), unit(more, j)))

    def test_changed(self):
        source = some(8)
        for size in (1, 2, 6):
            table = any_table(source, size)
            left, right = any_rows(source, size, size, 9, 3), any_rows(source, size, size, 9, 3)
            handed = {"table": table, "left": [*map(list, left)], "right": [*map(list, right)]}
            new = self.check_call(changed, handed)
            one, other = any_row(source, size), any_row(source, size)
            expected = table(plain_sum(one, left, size), plain_sum(other, right, size))
            self.assertEqual(new(one, other), expected)
            still = [unit(size, at) for at in range(size)]
            self.assertEqual(changed(table, still, still), table)
            self.assertEqual(changed(table, [noughts(size)] * size, right), nought_table(size))

    def test_with_one(self):
        source = some(9)
        for size in (1, 2, 5):
            table = any_table(source, size)
            more = self.check_call(with_one, {"table": table})
            self.assertEqual([more.size, ones(more)], [size + 1, unit(size + 1, 0)])
            one, other = any_row(source, size), any_row(source, size)
            self.assertEqual(more([(0, 1)] + one, [(0, 1)] + other), [(0, 1)] + table(one, other))
        self.assertEqual(with_one(Table([[row(3)]])).products, [rows([1, 0], [0, 1]), rows([0, 1], [0, 3])])


class OverAnotherBasis(Checks, unittest.TestCase):
    def test_over(self):
        source = some(10)
        for size in (1, 2, 3, 6):
            table, basis = any_table(source, size, 9, 1), any_basis(source, size, 5, 4)
            turned = self.check_call(over, {"table": table, "rows": [*map(list, basis)]})
            one, other = any_row(source, size), any_row(source, size)
            expected = table(plain_sum(one, basis, size), plain_sum(other, basis, size))
            self.assertEqual(plain_sum(turned(one, other), basis, size), expected)

    def test_over_and_back(self):
        source = some(11)
        for size in (1, 2, 4, 6):
            table, basis = any_table(source, size, 9999, 9999), any_basis(source, size, 9999, 9999)
            back = [told_by(unit(size, at), basis) for at in range(size)]
            self.assertEqual(over(over(table, basis), back), table)

    def test_over_the_units(self):
        table = any_table(some(12), 3)
        self.assertEqual(over(table, [unit(3, at) for at in range(3)]), table)
        turned = over(table, [unit(3, 2), unit(3, 0), unit(3, 1)])
        self.assertEqual(turned.products[0][1], [table.products[2][0][at] for at in (2, 0, 1)])

    def test_over_goes_with_opposite_and_ones(self):
        source = some(13)
        for products in (TURN, SQUARES, SECOND):
            table = Table(products)
            basis = any_basis(source, table.size, 4, 3)
            turned = over(table, basis)
            self.assertEqual(opposite(turned), over(opposite(table), basis))
            if ones(table) is None:
                self.assertIs(ones(turned), None)
            else:
                self.assertEqual(plain_sum(ones(turned), basis, table.size), ones(table))




def sayings(table, bracketings):
    """All relations of the products of three units in any order, in either bracketing."""
    size = table.size
    units = [unit(size, at) for at in range(size)]
    orders = [(0, 1, 2), (0, 2, 1), (1, 0, 2), (1, 2, 0), (2, 0, 1), (2, 1, 0)]
    lists = []
    for bracketing in bracketings:
        for order in orders:
            told = []
            for three in [(a, b, c) for a in units for b in units for c in units]:
                a, b, c = (three[at] for at in order)
                told += table(table(a, b), c) if bracketing == "first" else table(a, table(b, c))
            lists.append(told)
    return relations(lists)


class SayingsOverAnotherBasis(unittest.TestCase):
    def tables(self):
        source = some(14)
        cross = Table([rows([0, 0, 0], [0, 0, 1], [0, -1, 0]), rows([0, 0, -1], [0, 0, 0], [1, 0, 0]),
                       rows([0, 1, 0], [-1, 0, 0], [0, 0, 0])])
        return [Table(TURN), Table(SECOND), Table(STILL), cross, any_table(source, 2, 1, 1), any_table(source, 2)]

    def test_a_turned_table_has_the_same_sayings(self):
        source = some(15)
        for table in self.tables():
            told = sayings(table, ["first", "last"])
            for _ in range(2):
                turned = over(table, any_basis(source, table.size, 5, 3))
                self.assertEqual(sayings(turned, ["first", "last"]), told)
        self.assertEqual(len(sayings(Table(TURN), ["first", "last"])), 11)

    def test_the_opposite_has_the_sayings_turned_round(self):
        # Turned round, (ab)c is c(ba): the other bracketing, and the orders read from behind.
        for table in self.tables():
            told = sayings(table, ["first", "last"])
            turned = [self.turned_round(numbers) for numbers in sayings(opposite(table), ["first", "last"])]
            self.assertEqual(span(turned, 12), told)

    def turned_round(self, numbers):
        orders = [(0, 1, 2), (0, 2, 1), (1, 0, 2), (1, 2, 0), (2, 0, 1), (2, 1, 0)]
        return [numbers[6 * (1 - half) + orders.index(order[::-1])] for half in (0, 1) for order in orders]


class Ones(Checks, unittest.TestCase):
    def test_ones(self):
        self.assertEqual(self.check_call(ones, {"table": Table(TURN)}), row(1, 0))
        self.assertEqual(ones(Table(SQUARES)), row(1, 0, 0, 1))
        self.assertEqual(ones(Table([[row(-2)]])), row("-1/2"))
        for none in (Table(SECOND), Table(STILL), opposite(Table(SECOND)), nought_table(1), nought_table(6)):
            self.assertIs(ones(none), None)

    def test_left_and_right_ones(self):
        free = ([(0, 1), (1, 1)], [[(1, 1), (-1, 1)]])
        self.assertEqual(self.check_call(left_ones, {"table": Table(SECOND)}), free)
        self.assertIs(right_ones(Table(SECOND)), None)
        self.assertEqual(self.check_call(right_ones, {"table": opposite(Table(SECOND))}), free)
        self.assertIs(left_ones(opposite(Table(SECOND))), None)
        self.assertEqual(left_ones(Table(TURN)), (row(1, 0), []))
        self.assertEqual(right_ones(Table(TURN)), (row(1, 0), []))
        self.assertEqual(left_ones(Table([[row("2/3")]])), (row("3/2"), []))
        for function in (left_ones, right_ones):
            self.assertIs(function(Table(STILL)), None)
            self.assertIs(function(nought_table(3)), None)

    def check_ones(self, table, function, acts):
        """The row and the span tell rows that are ones, and the row is 0 at the first places of the span's rows."""
        first, free = function(table)
        units = [unit(table.size, at) for at in range(table.size)]
        for one in [first] + [sum_of(first, entries) for entries in free]:
            for entries in units:
                self.assertEqual(acts(one, entries), entries)
        for entries in free:
            self.assertEqual(first[next(at for at, number in enumerate(entries) if number[0])], (0, 1))
        self.assertEqual(span(free, table.size), free)
        return first, free

    def test_ones_over_another_basis(self):
        # x y = f(x) y has as left ones all rows with f(x) = 1.
        source = some(16)
        for size in (1, 2, 3, 6):
            numbers = any_row(source, size, 3, 2)
            numbers[0] = (2, 1)
            table = Table([[times(number, unit(size, at)) for at in range(size)] for number in numbers])
            first, free = self.check_ones(table, left_ones, table)
            self.assertEqual(len(free), size - 1)
            for entries in any_rows(source, 5, size):
                worth = plain_sum(numbers, [[number] for number in entries], 1)
                less = sum_of(entries, times((-1, 1), first))
                self.assertIs(is_within(free, less), worth == row(1))
            turned = opposite(table)
            self.check_ones(turned, right_ones, lambda one, other: turned(other, one))
            self.assertEqual(right_ones(turned), (first, free))
            self.assertEqual(right_ones(table) is None, size > 1)

    def test_ones_with_others_beside(self):
        table = beside(Table(SECOND), Table(TURN))
        self.assertEqual(self.check_ones(table, left_ones, table), (row(0, 1, 1, 0), [row(1, -1, 0, 0)]))
        self.assertIs(ones(beside(Table(TURN), Table(STILL))), None)
        self.assertEqual(ones(beside(Table(TURN), Table(SQUARES))), row(1, 0, 1, 0, 0, 1))
        self.assertEqual(ones(crossed(Table(TURN), Table(TURN))), row(1, 0, 0, 0))
