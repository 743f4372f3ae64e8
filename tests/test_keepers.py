import unittest

from tests.helpers import (
    Checks, any_number, any_products, any_row, any_rows, n, plain_form, plain_product, plain_sum, row, rows, some,
)
from tests.plain import (
    any_basis, any_products_with_a_side, is_nothing, lies_in, plain_back, plain_beside, plain_kernel, plain_opposite,
    plain_over, plain_units,
)
from tests.test_parts import CROSS, SECOND, STILL, TURN, UPPER, drawn_sides, drawn_tables
from toldproducts.keepers import (
    along, behind, bracket, centre, come_to, commuting, first_not_kept, first_unlike_product, keepers, nucleus,
    taken_to_nothing,
)
from toldproducts.parts import is_part, is_two_sided, led_down, left_over, part_table
from toldproducts.tables import Table

ONE, NOUGHT = (1, 1), (0, 1)
SQUARES = [[row(*[int((b, a, d) == (c, at // 2, at % 2)) for at in range(4)]) for c in range(2) for d in range(2)]
           for a in range(2) for b in range(2)]
GREAT = 10 ** 400 + 69


def image(told, entries):
    return plain_sum(entries, told, len(told[0]))


def rest(products, numbers, told, i, j):
    """u D(xy) - v (D(x) y) - w (x D(y)) for the units at i and j."""
    (u, v, w), units = numbers, plain_units(len(products))
    sides = [plain_product(products, told[i], units[j]), plain_product(products, units[i], told[j])]
    return plain_sum([u, n(-v[0], v[1]), n(-w[0], w[1])], [image(told, products[i][j]), *sides], len(products))


def plain_keepers(products, numbers):
    size = len(products)
    lists = []
    for unit in plain_units(size * size):
        told = [unit[at:at + size] for at in range(0, size * size, size)]
        lists.append([number for i in range(size) for j in range(size) for number in rest(products, numbers, told, i, j)])
    return [[entries[at:at + size] for at in range(0, size * size, size)] for entries in plain_kernel(lists)]


def any_map(source, many, size, most=9, below=1):
    return any_rows(source, many, size, most, below)


def product_keepers(seed):
    """Tuples of the products of two tables and a map of the one to the other that keeps all products."""
    source, found = some(seed), []
    for products in (TURN, SECOND, STILL, CROSS, UPPER, any_products(source, 3), any_products(source, 6)):
        basis = any_basis(source, len(products))
        turned, back = plain_over(products, basis), plain_back(basis)
        found += [(products, turned, back), (turned, products, basis)]
        wider = plain_beside(products, STILL)
        if len(wider) <= 6:
            found.append((products, wider, [entries + row(0, 0) for entries in plain_units(len(products))]))
            found.append((wider, products, plain_units(len(products)) + rows(*[[0] * len(products)] * 2)))
            found.append((wider, turned, back + rows(*[[0] * len(products)] * 2)))
        for size in (1, 3):
            found.append((products, any_products(source, size), rows(*[[0] * size] * len(products))))
    for products, form in drawn_sides(seed + 1):
        table = Table(products)
        found.append((products, left_over(table, form).products,
                      [led_down(table, form, unit) for unit in plain_units(len(products))]))
        found.append((part_table(table, form).products, products, form))
    return found


class Maps(Checks, unittest.TestCase):
    def test_along(self):
        told = rows([0, 1], [0, 0])
        self.assertEqual(self.check_call(along, {"told": told, "row": row(3, 5)}), row(0, 3))
        self.assertEqual(along(rows([1, 2, 3]), row("1/2")), row("1/2", 1, "3/2"))
        self.assertEqual(along(rows([1], [-1], [0]), row(5, 3, 9)), row(2))
        source = some(101)
        for many in range(1, 7):
            for size in (1, 2, 6):
                told, entries = any_map(source, many, size, 9999, 9999), any_row(source, many, 9999, 9999)
                self.assert_row_like(along(told, entries), image(told, entries))
        self.assertEqual(along([[n(GREAT)], [n(1, GREAT)]], [n(1, GREAT), n(GREAT)]), row(2))

    def test_behind(self):
        one, other = rows([1, 2, 3], [0, 1, 0]), rows([1, 1], [0, 2], [5, 0])
        told = self.check_call(behind, {"one": one, "other": other})
        self.assertEqual(told, rows([1, 3, 3], [0, 2, 0], [5, 10, 15]))
        source = some(102)
        for sizes in [(1, 1, 1), (2, 3, 1), (6, 1, 6), (4, 2, 5), (3, 3, 3)]:
            other, one = any_map(source, sizes[0], sizes[1], 99, 99), any_map(source, sizes[1], sizes[2], 99, 99)
            told = behind(one, other)
            self.assertEqual([len(told), len(told[0])], [sizes[0], sizes[2]])
            entries = any_row(source, sizes[0])
            self.assertEqual(image(told, entries), image(one, image(other, entries)))

    def test_bracket(self):
        # The other one goes first: the first unit to 5 times the last one, and then on by the one.
        one, other = rows([0, 0], [7, 0]), rows([0, 5], [0, 0])
        told = self.check_call(bracket, {"one": one, "other": other})
        self.assertEqual(told, rows([35, 0], [0, -35]))
        source = some(103)
        for size in range(1, 7):
            one, other = any_map(source, size, size, 9, 9), any_map(source, size, size, 9, 9)
            told = bracket(one, other)
            for entries in any_rows(source, 2, size):
                there, back = image(one, image(other, entries)), image(other, image(one, entries))
                self.assertEqual(image(told, entries), plain_sum([n(1), n(-1)], [there, back], size))
            self.assertEqual(bracket(one, one), rows(*[[0] * size] * size))


class Keepers(Checks, unittest.TestCase):
    def check(self, products, numbers):
        u, v, w = numbers
        told = self.check_call(keepers, {"table": Table(products), "u": u, "v": v, "w": w})
        self.assertEqual(told, plain_keepers(products, numbers))
        for one in told:
            self.assertIs(first_not_kept(Table(products), u, v, w, one), None)
        return told

    def test_ordinary(self):
        self.assertEqual(self.check(TURN, (ONE, ONE, ONE)), [])
        self.assertEqual(self.check(STILL, (ONE, ONE, ONE)), [rows([1, 0], [0, 2]), rows([0, 1], [0, 0])])
        self.assertEqual([len(self.check(products, (ONE, ONE, ONE))) for products in (SECOND, CROSS, UPPER, SQUARES)],
                         [2, 3, 2, 3])
        # D(xy) = D(x) y: in a table with a one the products with any row on the left, four of squares.
        self.assertEqual(len(self.check(SQUARES, (ONE, ONE, NOUGHT))), 4)
        self.assertEqual(len(self.check(SQUARES, (ONE, NOUGHT, ONE))), 4)
        self.assertEqual(len(self.check(SQUARES, (NOUGHT, ONE, n(-1)))), 1)
        self.assertEqual(self.check(TURN, (n(2), ONE, ONE)), [rows([1, 0], [0, 1]), rows([0, 1], [-1, 0])])

    def test_numbers_that_are_0(self):
        whole = [[unit[:2], unit[2:]] for unit in plain_units(4)]
        self.assertEqual(self.check(SECOND, (NOUGHT, NOUGHT, NOUGHT)), whole)
        for products in (TURN, SECOND, STILL, CROSS):
            for u in (NOUGHT, ONE):
                for v in (NOUGHT, n(2, 3)):
                    for w in (NOUGHT, n(-1)):
                        self.check(products, (u, v, w))

    def test_sizes(self):
        naught = [[row(0)]]
        for numbers, count in [((ONE, ONE, ONE), 0), ((ONE, ONE, NOUGHT), 1), ((n(2), ONE, ONE), 1),
                               ((ONE, NOUGHT, NOUGHT), 0)]:
            self.assertEqual(len(self.check([[row(5)]], numbers)), count)
            self.assertEqual(self.check(naught, numbers), [[row(1)]])
        source = some(111)
        for size in (1, 2, 3, 4):
            for products in (any_products(source, size, 9999, 9999), any_products(source, size, 1)):
                self.check(products, tuple(any_number(source, 9999, 9999) for _ in range(3)))
                self.check(products, (ONE, ONE, ONE))

    def test_drawn(self):
        source = some(112)
        for products in drawn_tables(113):
            if len(products) <= 4:
                self.check(products, (ONE, ONE, ONE))
                self.check(products, tuple(n(source.randint(-2, 2)) for _ in range(3)))

    def test_a_bracket_of_two_is_one(self):
        tried = 0
        for products in drawn_tables(114) + [SQUARES, CROSS, [rows([0, 0], [0, 0])] * 2]:
            if len(products) <= 4:
                table = Table(products)
                space = keepers(table, ONE, ONE, ONE)
                form = [[number for entries in told for number in entries] for told in space]
                for one in space[:4]:
                    for other in space[:4]:
                        told = bracket(one, other)
                        self.assertIs(first_not_kept(table, ONE, ONE, ONE, told), None)
                        self.assertTrue(lies_in(form, [number for entries in told for number in entries]))
                        tried += not is_nothing(sum(told, []))
        self.assertGreater(tried, 10)


class FirstNotKept(Checks, unittest.TestCase):
    def check(self, products, numbers, told):
        handed = {"table": Table(products), **dict(zip("uvw", numbers)), "told": [list(entries) for entries in told]}
        places = [(i, j) for i in range(len(products)) for j in range(len(products))]
        expected = next((place for place in places if not is_nothing(rest(products, numbers, told, *place))), None)
        found = self.check_call(first_not_kept, handed)
        self.assertEqual(found, expected)
        return found

    def test_ordinary(self):
        same = rows([1, 0], [0, 1])
        self.assertEqual(self.check(TURN, (ONE, ONE, ONE), same), (0, 0))
        self.assertIs(self.check(TURN, (n(2), ONE, ONE), same), None)
        self.assertEqual(self.check(STILL, (ONE, ONE, ONE), rows([1, 0], [0, 3])), (0, 0))
        self.assertIs(self.check(STILL, (ONE, ONE, ONE), rows([3, -7], [0, 6])), None)
        self.assertEqual(self.check(STILL, (ONE, ONE, ONE), rows([0, 0], [1, 0])), (0, 0))
        self.assertEqual(self.check(CROSS, (ONE, ONE, ONE), rows([0, 1, 0], [1, 0, 0], [0, 0, 0])), (0, 2))
        self.assertEqual(self.check(SECOND, (ONE, NOUGHT, ONE), rows([1, 1], [0, 1])), None)
        self.assertEqual(self.check(UPPER, (ONE, ONE, ONE), rows([0, 0, 0], [0, 5, 0], [0, 1, 0])), (0, 2))
        self.assertIs(self.check(TURN, (NOUGHT, NOUGHT, NOUGHT), rows([5, 6], [7, 8])), None)

    def test_drawn(self):
        source, kinds = some(121), set()
        for products in drawn_tables(122):
            size = len(products)
            for numbers in [(ONE, ONE, ONE), (ONE, ONE, NOUGHT), tuple(any_number(source, 2, 3) for _ in range(3))]:
                told = any_map(source, size, size, 1)
                kinds.add(self.check(products, numbers, told))
                self.assertIs(self.check(products, numbers, rows(*[[0] * size] * size)), None)
        self.assertGreater(len(kinds), 2)

    def test_great_numbers_that_the_program_told(self):
        turned = plain_over(STILL, any_basis(some(123), 2, 9999))
        for told in keepers(Table(turned), ONE, ONE, ONE):
            self.assertIs(self.check(turned, (ONE, ONE, ONE), told), None)
            self.assertIs(self.check(turned, (ONE, ONE, ONE), [[n(a * GREAT, b) for a, b in one] for one in told]), None)


class UnlikeProducts(Checks, unittest.TestCase):
    def check(self, products, others, told):
        places = [(i, j) for i in range(len(products)) for j in range(len(products))]
        expected = next(((i, j) for i, j in places
                         if image(told, products[i][j]) != plain_product(others, told[i], told[j])), None)
        found = self.check_call(first_unlike_product, {
            "table": Table(products), "other": Table(others), "told": [list(entries) for entries in told]})
        self.assertEqual(found, expected)
        return found

    def test_ordinary(self):
        self.assertIs(self.check(TURN, TURN, rows([1, 0], [0, -1])), None)
        self.assertEqual(self.check(TURN, TURN, rows([1, 0], [0, 2])), (1, 1))
        self.assertEqual(self.check(TURN, TURN, rows([2, 0], [0, 1])), (0, 0))
        self.assertEqual(self.check(TURN, TURN, rows([0, 0], [0, 1])), (0, 1))
        self.assertIs(self.check(SECOND, [[row(1)]], [row(1), row(1)]), None)
        self.assertEqual(self.check(SECOND, [[row(1)]], [row(1), row(2)]), (1, 0))
        self.assertIs(self.check([[row(1)]], SQUARES, [row(1, 0, 0, 0)]), None)
        self.assertEqual(self.check([[row(1)]], SQUARES, [row(1, 1, 1, 0)]), (0, 0))
        self.assertIs(self.check(TURN, SQUARES, rows([1, 0, 0, 1], [0, 1, -1, 0])), None)

    def test_maps_that_keep_all_products(self):
        for products, others, told in product_keepers(131):
            self.assertIs(self.check(products, others, told), None)
            self.assertIs(is_two_sided(Table(products), taken_to_nothing(told)), True)
            self.assertIs(is_part(Table(others), come_to(told)), True)

    def test_drawn(self):
        source, kinds = some(132), set()
        for products, others, told in product_keepers(133):
            place = source.randrange(len(told))
            changed = [list(entries) for entries in told]
            changed[place] = any_row(source, len(others), 2)
            kinds.add(self.check(products, others, changed))
            kinds.add(self.check(products, others, any_map(source, len(products), len(others), 9999, 9999)))
        self.assertGreater(len(kinds), 4)


class NothingAndAll(Checks, unittest.TestCase):
    def check(self, told):
        nothing = self.check_call(taken_to_nothing, {"told": [list(entries) for entries in told]})
        self.assertEqual(nothing, plain_kernel(told))
        found = self.check_call(come_to, {"told": [list(entries) for entries in told]})
        self.assertEqual(found, plain_form(told))
        self.assertEqual(len(nothing) + len(found), len(told))
        return nothing, found

    def test_ordinary(self):
        self.assertEqual(self.check(rows([0, 1], [0, 0])), (rows([0, 1]), rows([0, 1])))
        self.assertEqual(self.check(rows([1, 2, 3])), ([], rows([1, 2, 3])))
        self.assertEqual(self.check(rows([1], [2], [4])), (rows([1, 0, "-1/4"], [0, 1, "-1/2"]), rows([1])))
        self.assertEqual(self.check(rows([0, 0])), (rows([1]), []))
        self.assertEqual(self.check([row(5)]), ([], [row(1)]))

    def test_drawn(self):
        source = some(141)
        for many in range(1, 7):
            for size in range(1, 7):
                self.check(any_map(source, many, size, 1))
                self.check(any_map(source, many, size, 9999, 9999))
        self.check([[n(GREAT), n(1)], [n(GREAT * GREAT), n(GREAT)]])


class Going(Checks, unittest.TestCase):
    """Rows that go with all others."""

    def rests(self, products, which):
        """For each unit as a, all numbers of ax - xa, or of (ax)y - a(xy) and so on."""
        units, lists = plain_units(len(products)), []
        for one in units:
            found = []
            for x in units:
                if which == "order":
                    found.append((plain_product(products, one, x), plain_product(products, x, one)))
                for y in units if which != "order" else ():
                    p, q, r = [(one, x, y), (x, one, y), (x, y, one)][which]
                    found.append((plain_product(products, plain_product(products, p, q), r),
                                  plain_product(products, p, plain_product(products, q, r))))
            lists.append([number for both in found for number in plain_sum([n(1), n(-1)], both, len(products))])
        return lists

    def check(self, products):
        table = Table(products)
        lists = [self.rests(products, which) for which in ("order", 0, 1, 2)]
        self.assertEqual(self.check_call(commuting, {"table": table}), plain_kernel(lists[0]))
        for side in (0, 1, 2):
            self.assertEqual(self.check_call(nucleus, {"table": table, "side": side}), plain_kernel(lists[side + 1]))
        self.assertEqual(self.check_call(centre, {"table": table}), plain_kernel([sum(four, []) for four in zip(*lists)]))

    def test_ordinary(self):
        whole = rows([1, 0], [0, 1])
        self.assertEqual([commuting(Table(products)) for products in (TURN, SECOND, STILL, SQUARES)],
                         [whole, [], whole, rows([1, 0, 0, 1])])
        self.assertEqual([nucleus(Table(SECOND), side) for side in (0, 1, 2)], [whole] * 3)
        self.assertEqual([centre(Table(products)) for products in (TURN, SECOND, CROSS, SQUARES)],
                         [whole, [], [], rows([1, 0, 0, 1])])
        self.assertEqual([nucleus(Table(CROSS), side) for side in (0, 1, 2)], [[]] * 3)

    def test_sides_that_are_unlike(self):
        # A product of which just one place may be grouped either way by some rows.
        lean = [rows([0, 1], [0, 1]), rows([1, 0], [0, 0])]
        self.check(lean)
        self.check(plain_opposite(lean))
        source, unlike = some(151), 0
        for _ in range(60):
            products = any_products(source, 2, 1)
            table = Table(products)
            told = [nucleus(table, side) for side in (0, 1, 2)]
            turned = [nucleus(Table(plain_opposite(products)), side) for side in (2, 1, 0)]
            self.assertEqual(turned, told)
            unlike += told[0] != told[1] and told[1] != told[2] and told[0] != told[2]
        self.assertGreater(unlike, 0)

    def test_size_1_and_6(self):
        for number in (0, 1, "-3/7"):
            table = Table([[row(number)]])
            for told in [commuting(table), centre(table)] + [nucleus(table, side) for side in (0, 1, 2)]:
                self.assertEqual(told, [row(1)])
        source = some(152)
        self.check(any_products_with_a_side(source, 6, 3, 1))
        self.check(plain_beside(CROSS, UPPER))
        self.check(plain_beside(SQUARES, STILL))

    def test_drawn(self):
        for products in drawn_tables(153) + [SQUARES, any_products(some(154), 3, 9999, 9999)]:
            if len(products) <= 4:
                self.check(products)

    def test_what_is_told_goes_with_drawn_rows(self):
        source = some(155)
        for products in (SQUARES, plain_beside(TURN, CROSS), plain_over(UPPER, any_basis(source, 3))):
            table = Table(products)
            x, y = any_rows(source, 2, len(products), 99, 99)
            for a in commuting(table):
                self.assertEqual(table(a, x), table(x, a))
            for side in (0, 1, 2):
                for a in nucleus(table, side):
                    p, q, r = [(a, x, y), (x, a, y), (x, y, a)][side]
                    self.assertEqual(table(table(p, q), r), table(p, table(q, r)))
            for a in centre(table):
                spans = [commuting(table)] + [nucleus(table, side) for side in (0, 1, 2)]
                self.assertTrue(all(lies_in(form, a) for form in spans))
