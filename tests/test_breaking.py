import unittest
from itertools import product

from tests.helpers import Checks, any_products, any_row, n, row, rows, some
from tests.plain import (
    A, B, C, D, EITHER, GROUPED, ROUND, TURNED, any_basis, any_term, is_nothing, less, letter, plain_expansion,
    plain_first_breaking, plain_leaves, plain_letters, plain_over, plain_units, plain_worth, plus, take, term_of_sum,
    times, tuples_in,
)
from tests.test_terms import VANISHING, deepest
from toldproducts.sayings import degrees, first_breaking, holds, letters, linear
from toldproducts.tables import Table

TURN = [rows([1, 0], [0, 1]), rows([0, 1], [-1, 0])]
SECOND = [rows([1, 0], [0, 1]), rows([1, 0], [0, 1])]
STILL = [rows([0, 1], [0, 0]), rows([0, 0], [0, 0])]
CROSS = [rows([0, 0, 0], [0, 0, 1], [0, -1, 0]), rows([0, 0, -1], [0, 0, 0], [1, 0, 0]),
         rows([0, 1, 0], [-1, 0, 0], [0, 0, 0])]
CIRCLE = [[row(*[int(k == (i + j) % 6) for k in range(6)]) for j in range(6)] for i in range(6)]
NAUGHT = [[row(*[0] * 6)] * 6] * 6


def choices(term, size):
    """How many lists of rows there are to try."""
    many = 1
    for most in degrees(term):
        many *= len([1 for entries in product(range(most + 1), repeat=size) if sum(entries) <= most])
    return many


class Breaking(Checks, unittest.TestCase):
    def check(self, products, term):
        """Like the plain reckoning, with `holds` and with the many-linear terms at all units."""
        table = Table(products)
        told = self.check_call(first_breaking, {"table": table, "term": term})
        self.assertIs(self.check_call(holds, {"table": table, "term": term}), told is None)
        self.assertIs(self.linear_ones_hold(products, term), told is None)
        if told is not None:
            self.assertLessEqual(sum(number[0] for entries in told for number in entries), 4)
            self.assertEqual([len(entries) for entries in told], [len(products)] * len(letters(term)))
            self.assertFalse(is_nothing(plain_worth(products, term, dict(zip(letters(term), told)))))
        return told

    def check_all(self, products, term):
        told = self.check(products, term)
        self.assertEqual(told, plain_first_breaking(products, term))
        return told

    def linear_ones_hold(self, products, term):
        units = plain_units(len(products))
        for saying in map(term_of_sum, linear(term)):
            used = sorted(plain_letters(saying))
            for lists in product(units, repeat=len(used)):
                if not is_nothing(plain_worth(products, saying, dict(zip(used, lists)))):
                    return False
        return True

    def test_sayings_that_hold(self):
        square = less(times(times(A, A), A), times(A, times(A, A)))
        for products, terms in [
            (TURN, [EITHER, GROUPED, square]), (SECOND, [GROUPED, square]), (CROSS, [TURNED, ROUND, times(A, A)]),
            (STILL, [times(times(A, B), C), times(A, times(B, C)), EITHER]),
            ([[row(1)]], [EITHER, GROUPED, less(times(times(A, B), times(C, D)), times(A, times(B, times(C, D))))]),
            ([[row(0)]], [times(A, B), times(A, A)]),
        ]:
            for term in terms + VANISHING:
                self.assertIs(self.check_all(products, term), None)

    def test_sayings_that_break(self):
        for products, term, expected in [
            (SECOND, EITHER, rows([1, 0], [0, 1])), (TURN, A, rows([1, 0])), (TURN, times(A, A), rows([1, 0])),
            (STILL, times(A, B), rows([1, 0], [1, 0])), (STILL, times(A, A), rows([1, 0])),
            (CROSS, EITHER, rows([1, 0, 0], [0, 1, 0])), (CROSS, GROUPED, rows([1, 0, 0], [1, 0, 0], [0, 1, 0])),
            (CROSS, times(times(A, B), B), rows([1, 0, 0], [0, 1, 0])), (TURN, plus(B, A), rows([1, 0], [0, 0])),
            ([[row(1)]], less(times(A, A), A), [row(2)]), ([[row(2)]], less(times(A, A), take(2, A)), [row(2)]),
            ([[row(1)]], less(times(A, B), B), [row(0), row(1)]),
            ([[row(1)]], less(times(A, times(A, A)), times(A, A)), [row(2)]),
            ([[row(1)]], plus(times(A, times(A, A)), take(-3, times(A, A)), take(2, A)), [row(3)]),
            (TURN, plus(times(A, A), A), rows([1, 0])),
            (TURN, plus(take(0, times(A, C)), B), rows([0, 0], [1, 0], [0, 0])),
            (SECOND, less(times(A, B), B), rows([0, 0], [1, 0])),
            (TURN, less(letter("z"), letter("b")), rows([1, 0], [0, 0])),
        ]:
            self.assertEqual(self.check_all(products, term), expected, term)

    def test_the_order_of_rows(self):
        # By x y = f(x) g(y): the first breaking row of "a a" is a unit or, where f g is nothing at all units, a sum.
        products = [rows([0, 0], [1, 0]), rows([0, 0], [0, 0])]
        self.assertEqual(self.check_all(products, times(A, A)), rows([1, 1]))
        self.assertEqual(self.check_all(products, times(B, A)), rows([0, 1], [1, 0]))
        self.assertEqual(self.check_all(products, times(A, B)), rows([1, 0], [0, 1]))
        products = [rows([0, 0, 0], [0, 0, 1], [0, 0, 0]), rows([0, 0, -1], [0, 0, 0], [0, 0, 1]),
                    rows([0, 0, 0], [0, 0, 0], [0, 0, 0])]
        self.assertEqual(self.check_all(products, times(A, A)), rows([0, 1, 1]))

    def test_sums_of_more_than_one_at_a_unit(self):
        # 1 and 2 give noughts, 3 does not; of two letters the sums of both count.
        three = plus(times(A, times(A, A)), take(-3, times(A, A)), take(2, A))
        self.assertEqual(self.check_all([[row(1)]], three), [row(3)])
        lower = plus(take(6, times(A, times(A, A))), take(-11, times(A, A)), take(6, A))
        four = less(times(times(A, A), times(A, A)), lower)
        self.assertEqual(self.check_all([[row(1)]], four), [row(4)])
        self.assertEqual(self.check_all([[row(1)]], less(times(times(A, A), B), times(A, B))), [row(2), row(1)])
        both = times(less(times(A, A), A), less(times(B, B), B))
        self.assertEqual(self.check_all([[row(1)]], both), [row(2), row(2)])
        self.assertEqual(self.check_all(TURN, both)[0], row(0, 1))

    def test_drawn(self):
        source = some(21)
        tried = 0
        while tried < 120:
            term = any_term(source, "abc", 4, 4)
            size = source.choice([1, 1, 2, 2, 3])
            if tuples_in(term) <= 24 and choices(term, size) <= 300:
                self.check_all(any_products(source, size, source.choice([1, 9]), 2), term)
                tried += 1

    def test_drawn_among_tables_that_keep_many_sayings(self):
        source = some(22)
        halves = [EITHER, GROUPED, TURNED, ROUND, times(A, A), less(times(A, A), B), take(2, less(A, B)),
                  less(times(times(B, A), A), times(B, times(A, A))), less(times(A, times(A, A)), times(times(A, A), A))]
        found = []
        for products in (TURN, SECOND, STILL, CROSS):
            turned = plain_over(products, any_basis(source, len(products)))
            for _ in range(10):
                term = plus(*[source.choice(halves) for _ in range(source.randint(1, 3))])
                if choices(term, len(products)) <= 3000:
                    found.append(self.check_all(turned, term) is None)
        self.assertTrue(any(found) and not all(found))

    def test_size_6(self):
        long = less(times(times(times(A, B), C), D), times(A, times(B, times(C, D))))
        for term in (GROUPED, EITHER):
            self.assertIs(self.check(CIRCLE, term), None)
        self.assertIs(first_breaking(Table(CIRCLE), long), None)
        self.assertIs(holds(Table(NAUGHT), times(times(plus(A, B), plus(C, D)), times(plus(A, B), plus(C, D)))), True)
        changed = [[list(entries) for entries in lists] for lists in CIRCLE]
        changed[5][5] = row(0, 0, 0, 0, 1, 2)
        self.assertEqual(self.check(changed, EITHER), None)
        units = plain_units(6)
        self.assertEqual(self.check(changed, GROUPED), [units[1], units[4], units[5]])
        last = [units[5], units[5]]
        none = [[row(*[0] * 6)] * 6 for _ in range(5)] + [[row(*[0] * 6)] * 5 + [units[0]]]
        self.assertEqual(self.check(none, times(A, B)), last)
        self.assertEqual(self.check(none, times(A, A)), last[:1])
        self.assertIs(self.check(none, times(times(A, B), C)), None)

    def test_deep_terms_and_great_numbers(self):
        source = some(23)
        self.assertEqual(self.check([[row(1)]], deepest()), plain_first_breaking([[row(1)]], deepest()))
        products = any_products(source, 2, 9999, 9999)
        great = plain_over(products, [any_row(source, 2, 9999, 9999) for _ in range(2)])
        self.assertIs(holds(Table(great), GROUPED), False)
        turned = plain_over(TURN, [any_row(source, 2, 9999, 9999) for _ in range(2)])
        for term in (GROUPED, EITHER, less(times(times(A, A), times(A, A)), times(A, times(A, times(A, A))))):
            self.assertIs(self.check_all(turned, term), None)
        slightly = plus(take(9999, EITHER), ("take", n(1, 9999), times(A, less(B, B))))
        self.assertIs(self.check_all(turned, slightly), None)

    def test_letters_that_vanish_have_noughts(self):
        term = plus(times(letter("m"), letter("c")), less(times(A, letter("z")), times(A, letter("z"))))
        self.assertEqual(self.check(TURN, term), rows([0, 0], [1, 0], [1, 0], [0, 0]))
        for _, monomial in plain_expansion(term):
            self.assertEqual(plain_leaves(monomial), ["m", "c"])
