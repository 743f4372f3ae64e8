import unittest
from fractions import Fraction

from tests.helpers import Checks, any_products, any_row, n, row, rows, some
from tests.plain import (
    A, B, C, D, EITHER, GROUPED, NOTHING, any_term, deep, is_nothing, less, letter, plain_expansion, plain_leaves,
    plain_letters, plain_linear, plain_worth, plus, take, term_of_sum, times, tuples_in,
)
from toldproducts.sayings import degrees, expanded, is_linear, letters, linear, same_everywhere, worth
from toldproducts.tables import Table

TURN = [rows([1, 0], [0, 1]), rows([0, 1], [-1, 0])]
SECOND = [rows([1, 0], [0, 1]), rows([1, 0], [0, 1])]
VANISHING = [NOTHING, less(A, A), take(0, times(A, B)), times(NOTHING, A), times(less(B, B), C),
             plus(times(A, B), take(-1, times(A, B))), take(0, NOTHING), less(EITHER, EITHER),
             times(take(0, times(times(A, B), times(C, D))), NOTHING)]


def deepest():
    """A term 10 deep with 24 tuples."""
    term = times(take(2, times(plus(A, B), C)), D)
    for number in ("1/2", -3, "2/3"):
        term = take(Fraction(number), term)
    return take(-1, plus(term, plus(times(times(C, B), D), times(A, times(C, D)))))


def drawn_terms(seed, many, alphabet="abcd"):
    source = some(seed)
    terms = []
    while len(terms) < many:
        term = any_term(source, alphabet, 4, 5)
        if tuples_in(term) <= 24:
            terms.append(term)
    return terms


class Letters(Checks, unittest.TestCase):
    def test_letters(self):
        for term, expected in [
            (A, "a"), (letter("z"), "z"), (NOTHING, ""), (times(C, plus(A, C)), "ac"), (take(3, D), "d"),
            (plus(letter("z"), times(letter("m"), letter("b"))), "bmz"), (take(0, times(B, A)), "ab"),
            (times(C, NOTHING), "c"), (less(D, D), "d"), (plus(NOTHING, NOTHING), ""),
        ]:
            self.assertEqual(self.check_call(letters, {"term": term}), expected)

    def test_drawn(self):
        for term in drawn_terms(1, 100, "akmz"):
            self.assertEqual(letters(term), "".join(sorted(plain_letters(term))))


class Worth(Checks, unittest.TestCase):
    def check(self, products, term, lists):
        told = self.check_call(worth, {"table": Table(products), "term": term, "rows": [list(one) for one in lists]})
        self.assert_row_like(told, plain_worth(products, term, dict(zip(sorted(plain_letters(term)), lists))))
        return told

    def test_ordinary(self):
        one, other = row(1, 2), row(3, 4)
        self.assertEqual(self.check(TURN, EITHER, [one, other]), row(0, 0))
        self.assertEqual(self.check(SECOND, EITHER, [one, other]), row(3 * 3 - 7, 3 * 4 - 14))
        self.assertEqual(self.check(TURN, times(A, B), [one, other]), row(-5, 10))
        self.assertEqual(self.check(SECOND, times(B, A), [one, other]), row(7, 14))
        self.assertEqual(self.check(TURN, letter("x"), [one]), one)
        self.assertEqual(self.check(TURN, take(Fraction(-1, 2), letter("x")), [other]), row("-3/2", -2))
        self.assertEqual(self.check(TURN, plus(B, A), [one, other]), row(4, 6))

    def test_nothing_and_what_vanishes(self):
        self.assertEqual(self.check(TURN, NOTHING, []), row(0, 0))
        self.assertEqual(self.check([[row(3)]], NOTHING, []), row(0))
        for term in VANISHING:
            lists = [row(5, "1/3")] * len(plain_letters(term))
            self.assertEqual(self.check(SECOND, term, lists), row(0, 0))

    def test_rows_in_the_order_of_the_letters(self):
        term = less(times(letter("q"), letter("b")), letter("k"))
        self.assertEqual(self.check([[row(1)]], term, [row(2), row(3), row(5)]), row(7))

    def test_drawn(self):
        source = some(2)
        for at, term in enumerate(drawn_terms(3, 60)):
            size = at % 3 + 1
            products = any_products(source, size, 9, 5)
            self.check(products, term, [any_row(source, size, 9999, 9999) for _ in plain_letters(term)])

    def test_sizes_1_and_6_and_deep_terms(self):
        source = some(4)
        self.assertEqual([deep(deepest()), tuples_in(deepest())], [10, 24])
        for size in (1, 6):
            products = any_products(source, size, 9999, 9999)
            self.check(products, deepest(), [any_row(source, size, 9999, 9999) for _ in range(4)])
            self.check(products, times(times(A, B), times(C, D)), [any_row(source, size) for _ in range(4)])

    def test_great_numbers_that_the_program_told(self):
        first = Table(any_products(some(5), 2, 9999, 9999))
        great = worth(first, times(times(A, A), times(A, A)), [[n(9999, 9998), n(-9997, 9991)]])
        self.assertGreater(great[0][0].bit_length(), 100)
        self.check(first.products, plus(times(A, A), take(Fraction(7, 3), A)), [great])


class Expanded(Checks, unittest.TestCase):
    def check(self, term):
        told = self.check_call(expanded, {"term": term})
        self.assertEqual(told, plain_expansion(term))
        self.assertEqual([type(part) for part in told], [tuple] * len(told))
        return told

    def test_ordinary(self):
        self.assertEqual(self.check(A), [((1, 1), "a")])
        self.assertEqual(self.check(times(plus(A, B), take(2, C))), [((2, 1), ("a", "c")), ((2, 1), ("b", "c"))])
        self.assertEqual(self.check(times(B, plus(A, take("2/4", B)))), [((1, 1), ("b", "a")), ((1, 2), ("b", "b"))])
        self.assertEqual(self.check(GROUPED), [((1, 1), (("a", "b"), "c")), ((-1, 1), ("a", ("b", "c")))])

    def test_order_by_count_then_by_text(self):
        term = plus(times(A, times(A, A)), times(times(B, B), B), times(C, A), times(A, C), D, A, take(2, B),
                    times(times(A, A), times(A, A)), times(A, times(A, times(A, A))), times(A, times(times(A, A), A)))
        self.assertEqual([monomial for _, monomial in self.check(term)], [
            "a", "b", "d", ("a", "c"), ("c", "a"), (("b", "b"), "b"), ("a", ("a", "a")),
            (("a", "a"), ("a", "a")), ("a", (("a", "a"), "a")), ("a", ("a", ("a", "a"))),
        ])

    def test_what_vanishes(self):
        for term in VANISHING:
            self.assertEqual(self.check(term), [])
        self.assertEqual(self.check(plus(A, B, take(-1, A))), [((1, 1), "b")])
        self.assertEqual(self.check(times(less(A, B), plus(A, B))), [
            ((1, 1), ("a", "a")), ((1, 1), ("a", "b")), ((-1, 1), ("b", "a")), ((-1, 1), ("b", "b"))])
        self.assertEqual(self.check(plus(take("1/3", A), take("1/6", A), take("-1/2", A))), [])

    def test_deep_and_drawn(self):
        self.check(deepest())
        self.check(times(times(plus(A, B, C), plus(A, B, C)), times(plus(A, B, C), plus(A, B, C))))
        for term in drawn_terms(6, 150):
            self.check(term)


class Degrees(Checks, unittest.TestCase):
    def test_degrees(self):
        for term, expected in [
            (A, [1]), (NOTHING, []), (times(A, A), [2]), (plus(times(A, times(A, B)), times(B, B)), [2, 2]),
            (plus(times(A, A), take(0, times(C, C))), [2, 0]), (times(times(D, D), times(D, D)), [4]),
            (less(times(B, B), times(B, B)), [0]), (times(NOTHING, letter("z")), [0]), (plus(A, B, C, D), [1, 1, 1, 1]),
        ]:
            self.assertEqual(self.check_call(degrees, {"term": term}), expected)

    def test_drawn(self):
        for term in drawn_terms(7, 100):
            leaves = [plain_leaves(monomial) for _, monomial in plain_expansion(term)]
            expected = [max([one.count(sign) for one in leaves], default=0) for sign in sorted(plain_letters(term))]
            self.assertEqual(degrees(term), expected)


class SameEverywhere(Checks, unittest.TestCase):
    def test_ordinary(self):
        for one, other, expected in [
            (A, A, True), (A, B, False), (plus(A, A), take(2, A), True), (times(A, B), times(B, A), False),
            (times(plus(A, B), C), plus(times(B, C), times(A, C)), True), (GROUPED, NOTHING, False),
            (times(times(A, B), C), times(A, times(B, C)), False), (NOTHING, take(0, A), True),
            (NOTHING, less(EITHER, EITHER), True), (A, take(2, A), False), (A, times(A, A), False),
        ]:
            self.assertIs(self.check_call(same_everywhere, {"one": one, "other": other}), expected)

    def test_drawn_terms_that_are_unlike_differ_by_a_drawn_table(self):
        # A drawn table of size 3 tells many terms apart; where one does, they must not be told to be alike.
        source = some(8)
        terms = drawn_terms(9, 24, "ab")
        products = any_products(source, 3, 5, 3)
        lists = {sign: any_row(source, 3, 9, 4) for sign in "ab"}
        worths = [plain_worth(products, term, lists) for term in terms]
        for term, one in zip(terms, worths):
            self.assertIs(same_everywhere(term, term_of_sum(plain_expansion(term))), True)
            for other, another in zip(terms, worths):
                self.assertIs(same_everywhere(term, other), plain_expansion(term) == plain_expansion(other))
                if one != another:
                    self.assertIs(same_everywhere(term, other), False)

    def test_terms_of_unlike_expansions_give_unlike_rows_by_some_table(self):
        # The table whose units are monomials in a and b, longer ones nothing: it tells each expansion itself.
        units = ["a", "b", ("a", "a"), ("a", "b"), ("b", "a"), ("b", "b")]
        products = [[row(*[int(unit == (one, other)) for unit in units]) for other in units] for one in units]
        lists = [row(1, 0, 0, 0, 0, 0), row(0, 1, 0, 0, 0, 0)]
        terms = [term for term in drawn_terms(10, 200, "ab") if max(map(len, map(plain_leaves, [
            monomial for _, monomial in plain_expansion(term)])), default=0) <= 2]
        self.assertGreater(len(terms), 20)
        for term in terms:
            used = [lists["ab".index(sign)] for sign in letters(term)]
            self.assertIs(same_everywhere(term, NOTHING), is_nothing(worth(Table(products), term, used)))


class Linear(Checks, unittest.TestCase):
    def test_is_linear(self):
        for term, expected in [
            (A, True), (letter("q"), True), (NOTHING, True), (EITHER, True), (GROUPED, True), (times(A, A), False),
            (plus(A, B), False), (plus(times(A, B), A), False), (take(0, times(A, A)), True), (less(A, A), True),
            (plus(times(A, B), take(0, times(C, C))), True), (plus(times(A, B), times(A, C)), False),
            (times(times(A, B), times(C, letter("x"))), True), (times(times(A, B), times(C, B)), False),
            (plus(EITHER, less(times(A, A), times(A, A))), True),
        ]:
            self.assertIs(self.check_call(is_linear, {"term": term}), expected)
        for term in VANISHING:
            self.assertIs(is_linear(term), True)

    def check(self, term):
        told = self.check_call(linear, {"term": term})
        self.assertEqual(told, plain_linear(term))
        return told

    def test_linear_of_one_part(self):
        one = (1, 1)
        self.assertEqual(self.check(times(A, A)), [[(one, ("a", "b")), (one, ("b", "a"))]])
        self.assertEqual(self.check(A), [[(one, "a")]])
        self.assertEqual(self.check(take("2/3", letter("x"))), [[((2, 3), "a")]])
        self.assertEqual(self.check(less(times(B, C), times(C, B))), [[(one, ("a", "b")), ((-1, 1), ("b", "a"))]])
        self.assertEqual(self.check(times(B, times(A, B))), [[(one, ("b", ("a", "c"))), (one, ("c", ("a", "b")))]])
        self.assertEqual([len(part) for part in self.check(times(times(C, C), times(C, C)))], [24])

    def test_several_parts_ascend_by_their_counts(self):
        one = (1, 1)
        # The counts are (0, 1), (1, 0), (1, 1), (2, 0), of a and c; b vanishes and counts as 0.
        term = plus(times(A, A), A, take(3, times(C, A)), C, take(0, B))
        self.assertEqual(self.check(term), [
            [(one, "a")], [(one, "a")], [((3, 1), ("b", "a"))], [(one, ("a", "b")), (one, ("b", "a"))]])
        self.assertEqual(self.check(plus(A, times(B, B))), [
            [(one, ("a", "b")), (one, ("b", "a"))], [(one, "a")]])

    def test_what_vanishes(self):
        for term in VANISHING:
            self.assertEqual(self.check(term), [])

    def test_each_is_many_linear(self):
        for term in drawn_terms(11, 100) + [deepest(), times(plus(A, B), times(times(A, B), plus(A, C)))]:
            for expansion in self.check(term):
                saying = term_of_sum(expansion)
                self.assertIs(is_linear(saying), True)
                self.assertEqual(letters(saying), "abcd"[:len(plain_leaves(expansion[0][1]))])
                self.assertEqual(linear(saying), [expansion])
