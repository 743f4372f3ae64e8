import unittest
from fractions import Fraction
from itertools import product

from tests.helpers import Checks, any_products, any_row, any_rows, n, plain_form, plain_product, row, rows, some
from tests.plain import any_basis, plain_back, plain_beside, plain_kernel, plain_over, plain_units
from tests.test_parts import CROSS, SECOND, STILL, TURN, UPPER, drawn_spans, drawn_tables
from toldproducts.forms import (
    across, first_not_moved, form_worth, is_even, moved_forms, null_span, trace_form,
)
from toldproducts.powers import power
from toldproducts.tables import Table, over

GREAT = 10 ** 400 + 69
# Sums of powers of one unit, the fifth one nothing; and all products nothing.
ROW_OF_FIVE = [[row(*[int(k == i + j) for k in range(5)]) for j in range(5)] for i in range(5)]
SQUARES = [[row(*[int((b, a, d) == (c, at // 2, at % 2)) for at in range(4)]) for c in range(2) for d in range(2)]
           for a in range(2) for b in range(2)]


def plain_worth(form, one, other):
    return n(sum((Fraction(*a) * Fraction(*b) * Fraction(*form[i][j])
                  for i, a in enumerate(one) for j, b in enumerate(other)), Fraction(0)))


def plain_turned(form):
    return [[entries[at] for entries in form] for at in range(len(form))]


def rests(products, form):
    """For each three units whether the form of xy and z is not that of x and yz, and by how much."""
    size, units = len(products), plain_units(len(products))
    found = {}
    for i, j, k in product(range(size), repeat=3):
        one = plain_worth(form, products[i][j], units[k])
        other = plain_worth(form, units[i], products[j][k])
        found[(i, j, k)] = n(Fraction(*one) - Fraction(*other))
    return found


def folded(entries, size):
    return [entries[at:at + size] for at in range(0, len(entries), size)]


def plain_moved(products):
    size = len(products)
    lists = [list(rests(products, folded(unit, size)).values()) for unit in plain_units(size * size)]
    return [folded(entries, size) for entries in plain_kernel(lists)]


def plain_trace(products, one, other):
    """The sum of the numbers at e of one times (the other times e)."""
    units = plain_units(len(products))
    return n(sum(Fraction(*plain_product(products, one, plain_product(products, other, unit))[at])
                 for at, unit in enumerate(units)))


def drawn_forms(source, size, most=2, below=1):
    """Drawn forms: any one, an even one, one that turns its sign, one with few rows that tell, the form of noughts."""
    one = any_rows(source, size, size, most, below)
    sums = [[n(Fraction(*a) + sign * Fraction(*b)) for a, b in zip(entries, others)]
            for sign in (1, -1) for entries, others in zip(one, plain_turned(one))]
    lead = any_row(source, size, most, below)
    thin = [[n(k * Fraction(*number)) for number in lead] for k in range(size)]
    return [one, sums[:size], sums[size:], thin, rows(*[[0] * size] * size)]


class Worths(Checks, unittest.TestCase):
    def test_ordinary(self):
        handed = {"form": rows([2, 0], [0, -2]), "one": row(1, 2), "other": row(0, 1)}
        self.assertEqual(self.check_call(form_worth, handed), n(-4))
        # The first row goes with the first of the rows handed in.
        self.assertEqual(form_worth(rows([0, 1], [0, 0]), row(1, 0), row(0, 1)), n(1))
        self.assertEqual(form_worth(rows([0, 1], [0, 0]), row(0, 1), row(1, 0)), n(0))
        self.assertEqual(form_worth([row("1/2")], row("1/3"), row(6)), n(1))

    def test_drawn(self):
        source = some(401)
        for size in range(1, 7):
            for form in drawn_forms(source, size, 9999, 9999):
                one, other = any_row(source, size, 9999, 9999), any_row(source, size, 9999, 9999)
                handed = {"form": [list(entries) for entries in form], "one": list(one), "other": list(other)}
                told = self.check_call(form_worth, handed)
                self.assertEqual(told, plain_worth(form, one, other))
                self.assertIs(type(told), tuple)

    def test_great_numbers(self):
        form = [[n(GREAT), n(1, GREAT)], [n(0), n(-GREAT)]]
        self.assertEqual(form_worth(form, [n(1, GREAT), n(3)], [n(1), n(GREAT)]),
                         n(1 + Fraction(1, GREAT) - 3 * GREAT * GREAT))


class NullSpans(Checks, unittest.TestCase):
    def check(self, form):
        found = []
        for side, lists in [(0, form), (1, plain_turned(form))]:
            told = self.check_call(null_span, {"form": [list(entries) for entries in form], "side": side})
            self.assertEqual(told, plain_kernel(lists))
            for entries in told:
                for unit in plain_units(len(form)):
                    self.assertEqual(plain_worth(form, *((entries, unit) if side == 0 else (unit, entries))), n(0))
            found.append(told)
        return found

    def test_ordinary(self):
        self.assertEqual(self.check(rows([2, 0], [0, -2])), [[], []])
        self.assertEqual(self.check(rows([0, 1], [0, 0])), [rows([0, 1]), rows([1, 0])])
        self.assertEqual(self.check(rows([1, 2], [2, 4])), [rows([1, "-1/2"]), rows([1, "-1/2"])])
        self.assertEqual(self.check(rows([1, 2], [3, 6])), [rows([1, "-1/3"]), rows([1, "-1/2"])])
        self.assertEqual(self.check([row(0)]), [[row(1)], [row(1)]])
        self.assertEqual(self.check([row(9)]), [[], []])

    def test_drawn(self):
        source = some(411)
        for size in range(1, 7):
            for most in (1, 9999):
                for form in drawn_forms(source, size, most, most):
                    one, other = self.check(form)
                    self.assertEqual(len(one), len(other))
        self.check([[n(1), n(GREAT)], [n(GREAT), n(GREAT * GREAT)]])


class Even(Checks, unittest.TestCase):
    def test_ordinary(self):
        for form, expected in [(rows([2, 0], [0, -2]), True), (rows([0, 1], [1, 0]), True), (rows([0, 1], [-1, 0]), False),
                               (rows([0, 1], [0, 0]), False), ([row(7)], True), (rows([0, 0], [0, 0]), True),
                               (rows([1, 2, 3], [2, 4, 5], [3, 5, 6]), True), (rows([1, 2, 3], [2, 4, 5], [3, 6, 6]), False),
                               ([[n(0), n(GREAT)], [n(GREAT), n(0)]], True)]:
            self.assertIs(self.check_call(is_even, {"form": form}), expected)

    def test_drawn(self):
        source = some(421)
        for size in range(1, 7):
            for form in drawn_forms(source, size, 3, 2):
                units = plain_units(size)
                expected = all(plain_worth(form, one, other) == plain_worth(form, other, one)
                               for one in units for other in units)
                self.assertIs(is_even(form), expected)


class Moved(Checks, unittest.TestCase):
    def check(self, products):
        table, size = Table(products), len(products)
        space = self.check_call(moved_forms, {"table": table})
        self.assertEqual(space, plain_moved(products))
        # They are forms of a span, each goes so, and no more do.
        lists = [[number for entries in form for number in entries] for form in space]
        self.assertEqual(lists, plain_form(lists) if lists else [])
        for form in space:
            self.assertFalse([one for one in rests(products, form).values() if one != (0, 1)])
            self.assertIs(first_not_moved(table, form), None)
        self.assertEqual([len(entries) for form in space for entries in form], [size] * size * len(space))
        return space

    def test_ordinary(self):
        self.assertEqual(self.check(TURN), [rows([1, 0], [0, -1]), rows([0, 1], [1, 0])])
        self.assertEqual(self.check(STILL), [rows([1, 0], [0, 0]), rows([0, 1], [1, 0])])
        self.assertEqual(self.check([[row(3)]]), [[row(1)]])
        self.assertEqual(self.check([[row(0)]]), [[row(1)]])
        self.assertEqual([len(self.check(products)) for products in (SECOND, CROSS, UPPER, SQUARES, ROW_OF_FIVE)],
                         [2, 1, 3, 4, 5])

    def test_all_products_nothing(self):
        for size in range(1, 6):
            products = [rows(*[[0] * size] * size)] * size
            expected = [folded(unit, size) for unit in plain_units(size * size)]
            self.assertEqual(self.check(products), expected)

    def test_sizes(self):
        source = some(431)
        for size in range(1, 6):
            self.check(any_products(source, size, 9999, 9999))
            self.check(any_products(source, size, 1))

    def test_drawn(self):
        counts = set()
        for products in drawn_tables(432):
            if len(products) <= 5:
                counts.add(len(self.check(products)))
        self.assertGreater(len(counts), 2)

    def test_great_numbers(self):
        # Each form of the table is one of the turned table, written over the basis.
        source = some(433)
        basis = any_rows(source, 5, 5, 9999, 9999)
        turned = over(Table(ROW_OF_FIVE), basis)
        space = moved_forms(turned)
        self.assertEqual(len(space), 5)
        for form in space:
            self.assertIs(first_not_moved(turned, form), None)
        lists = [[plain_worth(form, one, other) for one in basis for other in basis] for form in moved_forms(Table(ROW_OF_FIVE))]
        self.assertEqual(space, [folded(entries, 5) for entries in plain_form(lists)])


class NotMoved(Checks, unittest.TestCase):
    def check(self, products, form):
        found = [places for places, one in sorted(rests(products, form).items()) if one != (0, 1)]
        handed = {"table": Table(products), "form": [list(entries) for entries in form]}
        told = self.check_call(first_not_moved, handed)
        self.assertEqual(told, found[0] if found else None)
        return told

    def test_ordinary(self):
        self.assertIs(self.check(TURN, rows([2, 0], [0, -2])), None)
        self.assertEqual(self.check(TURN, rows([1, 0], [0, 1])), (0, 1, 1))
        self.assertEqual(self.check(STILL, rows([0, 1], [0, 0])), (0, 0, 0))
        self.assertEqual(self.check(STILL, rows([0, 0], [0, 1])), (0, 0, 1))
        self.assertIs(self.check(STILL, rows([5, -3], [-3, 0])), None)
        self.assertEqual(self.check([[row(2)]], [row(3)]), None)

    def test_drawn(self):
        source, kinds = some(441), set()
        for products in drawn_tables(442):
            for form in drawn_forms(source, len(products)):
                kinds.add(self.check(products, form))
            if len(products) <= 4:
                for form in plain_moved(products)[:2]:
                    self.assertIs(self.check(products, form), None)
                    changed = [list(entries) for entries in form]
                    changed[source.randrange(len(form))][source.randrange(len(form))] = n(7, 3)
                    kinds.add(self.check(products, changed))
        self.assertGreater(len(kinds), 6)

    def test_late_ones(self):
        # The form moves but for the last units.
        products = plain_beside([[row(0)]], STILL)
        self.assertEqual(self.check(products, rows([1, 0, 0], [0, 1, 0], [0, 0, 1])), (1, 1, 2))
        self.assertEqual(self.check(plain_beside(STILL, [[row(0)]]), rows([0, 0, 0], [0, 0, 0], [0, 1, 0])), (2, 0, 0))


class Traces(Checks, unittest.TestCase):
    def check(self, products):
        units = plain_units(len(products))
        told = self.check_call(trace_form, {"table": Table(products)})
        self.assertEqual(told, [[plain_trace(products, one, other) for other in units] for one in units])
        return told

    def test_ordinary(self):
        self.assertEqual(self.check(TURN), rows([2, 0], [0, -2]))
        self.assertEqual(self.check(STILL), rows([0, 0], [0, 0]))
        self.assertEqual(self.check(SECOND), rows([2, 2], [2, 2]))
        self.assertEqual(self.check([[row("2/3")]]), [row("4/9")])
        self.assertEqual(self.check(CROSS), rows([-2, 0, 0], [0, -2, 0], [0, 0, -2]))

    def test_drawn(self):
        source = some(451)
        for products in drawn_tables(452) + [any_products(source, size, 9999, 9999) for size in range(1, 7)]:
            form = self.check(products)
            self.assertIs(is_even(form), True)
            one, other = any_row(source, len(products)), any_row(source, len(products))
            self.assertEqual(form_worth(form, one, other), plain_trace(products, one, other))

    def test_great_numbers(self):
        self.check(over(Table(UPPER), any_rows(some(453), 3, 3, 9999, 9999)).products)


class Across(Checks, unittest.TestCase):
    def check(self, products, form, span):
        handed = {"table": Table(products), "form": [list(entries) for entries in form],
                  "span": [list(entries) for entries in span]}
        told = self.check_call(across, handed)
        units = plain_units(len(products))
        self.assertEqual(told, plain_kernel([[plain_worth(form, one, unit) for one in span] for unit in units]))
        return told

    def test_ordinary(self):
        self.assertEqual(self.check(TURN, rows([2, 0], [0, -2]), rows([1, 1])), rows([1, 1]))
        self.assertEqual(self.check(TURN, rows([0, 1], [0, 0]), rows([1, 0])), rows([1, 0]))
        self.assertEqual(self.check(TURN, rows([0, 1], [0, 0]), rows([0, 1])), rows([1, 0], [0, 1]))
        self.assertEqual(self.check(STILL, rows([1, 2], [3, 4]), rows([1, 0], [0, 1])), [])

    def test_nothing_and_all(self):
        source = some(461)
        for size in range(1, 7):
            products = any_products(source, size, 1)
            for form in drawn_forms(source, size):
                self.assertEqual(self.check(products, form, []), plain_units(size))
                self.assertEqual(self.check(products, form, plain_units(size)), null_span(form, 1))
            self.assertEqual(self.check(products, rows(*[[0] * size] * size), plain_units(size)), plain_units(size))

    def test_drawn(self):
        source = some(462)
        for products in drawn_tables(463):
            for form in drawn_forms(source, len(products), 9, 3):
                for span in drawn_spans(source, len(products))[2:]:
                    self.check(products, form, span)

    def test_great_numbers(self):
        source = some(464)
        basis = any_basis(source, 3, 9999)
        table = Table(plain_over(UPPER, basis))
        span = plain_form([power(table, any_row(source, 3, 99), 30), plain_back(basis)[0]])
        self.check(table.products, trace_form(table), span)
