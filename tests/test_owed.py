import unittest
from itertools import permutations

from tests.helpers import Checks, any_products, any_rows, n, plain_sum, row, rows, some
from tests.plain import (
    A, B, C, D, EITHER, GROUPED, NOTHING, ROUND, SAYINGS, TURNED, any_basis, is_nothing, less, letter, lies_in,
    plain_expansion, plain_images, plain_leaves, plain_letters, plain_monomials, plain_opposite, plain_over, plain_owed,
    plain_sayings, plain_text, plain_units, plain_worth, plain_worths, plus, sparse_form, take, term_of, term_of_sum,
    times,
)
from toldproducts.rows import is_within
from toldproducts.sayings import expanded, follows, holds, monomials, owed, sayings_of
from toldproducts.tables import Table, opposite, over

TURN = [rows([1, 0], [0, 1]), rows([0, 1], [-1, 0])]
SECOND = [rows([1, 0], [0, 1]), rows([1, 0], [0, 1])]
STILL = [rows([0, 1], [0, 0]), rows([0, 0], [0, 0])]
CROSS = [rows([0, 0, 0], [0, 0, 1], [0, -1, 0]), rows([0, 0, -1], [0, 0, 0], [1, 0, 0]),
         rows([0, 1, 0], [-1, 0, 0], [0, 0, 0])]
# The rows above the diagonal of squares of two rows, and the squares of three units.
UPPER = [rows([1, 0, 0], [0, 1, 0], [0, 0, 0]), rows([0, 0, 0], [0, 0, 0], [0, 1, 0]),
         rows([0, 0, 0], [0, 0, 0], [0, 0, 1])]
PRIME = 2 ** 61 - 1
CIRCLE = [[row(*[int(k == (i + j) % 6) for k in range(6)]) for j in range(6)] for i in range(6)]
# How many of the 120 monomials of four letters are left over by these sayings, as is known of such products.
LEFT_OF_FOUR = {
    "grouped": 24, "either": 15, "grouped either way": 1, "lie": 6, "leibniz": 24, "left alike": 64, "novikov": 20,
    "alternative": 32, "permuting": 4, "zinbiel": 24, "none twice": 0, "none thrice": 0, "left none": 24,
}


def keeps(products, term):
    """Whether a many-linear saying holds at all units, by the tests' own reckoning."""
    return plain_keeps(products, term, sorted(plain_letters(term)), {})


def plain_keeps(products, term, left, known):
    if not left:
        return is_nothing(plain_worth(products, term, known))
    return all(plain_keeps(products, term, left[1:], {**known, left[0]: unit}) for unit in plain_units(len(products)))


class Monomials(Checks, unittest.TestCase):
    def test_of_1_to_4(self):
        self.assertEqual(self.check_call(monomials, {"many": 1}), ["a"])
        self.assertEqual(self.check_call(monomials, {"many": 2}), [("a", "b"), ("b", "a")])
        for many, count in [(1, 1), (2, 2), (3, 12), (4, 120)]:
            told = self.check_call(monomials, {"many": many})
            self.assertEqual(len(told), count)
            self.assertEqual(told, plain_monomials("abcd"[:many]))
            self.assertEqual([plain_text(one) for one in told], sorted({plain_text(one) for one in told}))
        self.assertEqual(monomials(3)[:2] + monomials(3)[-2:], [
            (("a", "b"), "c"), (("a", "c"), "b"), ("c", ("a", "b")), ("c", ("b", "a"))])


class SayingsOf(Checks, unittest.TestCase):
    def check(self, products, many):
        told = self.check_call(sayings_of, {"table": Table(products), "many": many})
        self.assertEqual(told, plain_sayings(products, many))
        return told

    def test_ordinary(self):
        self.assertEqual(self.check(TURN, 2), [row(1, -1)])
        self.assertEqual(self.check(SECOND, 2), [])
        self.assertEqual(self.check(CROSS, 2), [row(1, 1)])
        self.assertEqual([self.check(products, 1) for products in (TURN, SECOND, STILL, CROSS)], [[]] * 4)
        self.assertEqual([len(self.check(products, 3)) for products in (TURN, SECOND, STILL, CROSS, UPPER)],
                         [11, 9, 12, 10, 6])

    def test_of_size_1(self):
        for number, many in [(1, 1), (1, 2), (-3, 3), (0, 2), (0, 3), (0, 1)]:
            self.check([[row(number)]], many)
        self.assertEqual(sayings_of(Table([[row(0)]]), 4), plain_units(120))
        self.assertEqual(sayings_of(Table([[row("1/7")]]), 4),
                         [row(*[int(k == at) - int(k == 119) for k in range(120)]) for at in range(119)])

    def test_of_size_6(self):
        for many in (1, 2, 3):
            self.assertEqual(len(self.check(CIRCLE, many)), [0, 1, 11][many - 1])
        products = any_products(some(31), 6, 9999, 9999)
        self.assertEqual([self.check(products, many) for many in (1, 2)], [[], []])
        self.assertEqual(sayings_of(Table(products), 3), [])

    def test_drawn(self):
        source = some(32)
        for size, many in [(1, 2), (1, 3), (2, 2), (2, 3), (3, 2), (3, 3)] * 4:
            self.check(any_products(source, size, 1, 1), many)
            self.check(any_products(source, size, 9999, 9999), many)

    def test_four_letters(self):
        for products, many in [(TURN, 119), (SECOND, 116), (STILL, 120), (CROSS, 114), (UPPER, 102)]:
            self.assertEqual(len(sayings_of(Table(products), 4)), many)
        source = some(33)
        for products in (TURN, SECOND, any_products(source, 2, 2, 1), [[row(2)]]):
            self.check(products, 4)

    def test_four_letters_by_drawn_tables_of_size_3(self):
        # Each told list is a saying over a prime, and there are as many as the monomials lack in rank over it.
        source = some(34)
        for most, below in [(1, 1), (2, 1), (9, 9), (9999, 9999)]:
            products = any_products(source, 3, most, below)
            told = sayings_of(Table(products), 4)
            worths = over_prime(plain_worths(products, 4))
            self.assertEqual(120 - len(told), rank_over_prime(worths))
            for numbers in over_prime(told):
                for column in zip(*worths):
                    self.assertEqual(sum(a * b for a, b in zip(numbers, column)) % PRIME, 0)
            self.check_form(told)

    def check_form(self, told):
        places = [next(at for at, number in enumerate(numbers) if number[0]) for numbers in told]
        self.assertEqual(places, sorted(set(places)))
        for place, numbers in zip(places, told):
            self.assertEqual([other[place] for other in told], [n(int(other is numbers)) for other in told])

    def test_a_table_over_another_basis_and_its_opposite(self):
        source = some(35)
        for products in (TURN, SECOND, STILL, CROSS, UPPER, any_products(source, 2, 2), any_products(source, 3, 1)):
            basis = any_basis(source, len(products), 3)
            turned = plain_over(products, basis)
            self.assertEqual(over(Table(products), basis), Table(turned))
            self.assertEqual(opposite(Table(turned)), Table(plain_opposite(turned)))
            for many in (1, 2, 3, 4):
                told = sayings_of(Table(products), many)
                self.assertEqual(sayings_of(Table(turned), many), told)
                others = sayings_of(Table(plain_opposite(turned)), many)
                self.assertEqual(sparse_form([turned_round(numbers, many) for numbers in others]), told)

    def test_they_hold_and_no_others(self):
        source = some(36)
        for products in (SECOND, CROSS, UPPER):
            table = Table(products)
            told = sayings_of(table, 3)
            for numbers in any_rows(source, 5, 12, 1) + told + [plain_sum([n(2), n(-3)], told[:2], 12)]:
                parts = [(number, one) for number, one in zip(numbers, monomials(3)) if number[0]]
                self.assertIs(holds(table, term_of_sum(parts)), is_within(told, numbers))


def turned_round(numbers, many):
    """The numbers of the monomials turned round."""
    places = {one: at for at, one in enumerate(plain_monomials("abcd"[:many]))}
    return [numbers[places[backwards(one)]] for one in plain_monomials("abcd"[:many])]


def backwards(monomial):
    return monomial if isinstance(monomial, str) else (backwards(monomial[1]), backwards(monomial[0]))


def over_prime(lists):
    return [[above * pow(below, -1, PRIME) % PRIME for above, below in entries] for entries in lists]


def rank_over_prime(lists):
    left, rank = lists, 0
    for place in range(len(left[0])):
        lead = next((entries for entries in left if entries[place]), None)
        if lead is not None:
            left = [entries for entries in left if entries is not lead]
            share = pow(lead[place], -1, PRIME)
            left = [[(a - entries[place] * share * b) % PRIME for a, b in zip(entries, lead)] if entries[place]
                    else entries for entries in left]
            rank += 1
    return rank


class Owed(Checks, unittest.TestCase):
    def check(self, terms, many):
        told = self.check_call(owed, {"terms": list(terms), "many": many})
        self.assertEqual(told, plain_owed(terms, many))
        return told

    def test_no_told_sayings(self):
        for many in (1, 2, 3, 4):
            for terms in ([], [NOTHING], [less(A, A), take(0, times(letter("x"), letter("x")))]):
                self.assertEqual(self.check(terms, many), [])

    def test_known_sayings_of_1_to_4_letters(self):
        self.assertEqual(self.check([EITHER], 2), [row(1, -1)])
        self.assertEqual(self.check([TURNED], 2), [row(1, 1)])
        for name, terms in SAYINGS.items():
            for many in (1, 2, 3, 4):
                told = self.check(terms, many)
            self.assertEqual(120 - len(told), LEFT_OF_FOUR[name], name)

    def test_of_one_letter(self):
        # No table has nothing but noughts, so everything is owed.
        for term in (A, take("-7/3", A), plus(A, take(0, times(B, B)))):
            for many, count in [(1, 1), (2, 2), (3, 12), (4, 120)]:
                self.assertEqual(self.check([term], many), plain_units(count))

    def test_more_letters_owe_nothing_of_fewer(self):
        four = less(times(times(times(A, B), C), D), times(times(times(B, A), C), D))
        for many in (1, 2, 3):
            self.assertEqual(self.check([four], many), [])
        self.assertEqual(self.check([GROUPED, four], 2), [])
        self.assertEqual(len(self.check([four], 4)), 12)
        self.assertEqual(len(self.check([GROUPED, four], 4)), 96 + 12)

    def test_letters_of_the_told_ones_may_vanish(self):
        for terms in ([plus(EITHER, times(letter("z"), NOTHING))], [EITHER, NOTHING], [EITHER, EITHER, take(5, EITHER)]):
            for many in (1, 2, 3):
                self.assertEqual(self.check(terms, many), plain_owed([EITHER], many))

    def test_drawn(self):
        source = some(41)
        for _ in range(25):
            terms = [self.drawn(source, source.randint(2, 4), source.choice([2, 9999]))
                     for _ in range(source.randint(1, 4))]
            for many in (2, 3):
                self.check(terms, many)
        for _ in range(4):
            self.check([self.drawn(source, 3, 3)], 4)
            self.check([self.drawn(source, 4, 9999) for _ in range(3)], 4)

    def drawn(self, source, many, most):
        found = source.sample(plain_monomials("abcd"[:many]), source.randint(1, min(many, 3)))
        return plus(*[("take", n(source.randint(1, most), source.randint(1, most)), term_of(one)) for one in found])

    def test_numbers_of_many_digits(self):
        term = less(times(times(A, B), C), ("take", n(9998, 9999), times(A, times(B, C))))
        deep = plus(EITHER, ("take", n(9999, 9998), ("take", n(9997, 9999), ("take", n(9995, 9998), times(A, B)))))
        for terms in ([term], [deep], [plus(times(times(A, B), C), take("9/7", times(B, times(A, C)))), term]):
            for many in (2, 3, 4):
                self.check(terms, many)

    def test_what_is_told_comes_in_all_orders(self):
        for name, terms in SAYINGS.items():
            for term in terms:
                many = len(plain_leaves(plain_expansion(term)[0][1]))
                told, places = owed(terms, many), monomials(many)
                for order in permutations("abcd"[:many]):
                    images = dict(zip("abcd", order))
                    known = {plain_images(one, images): number for number, one in expanded(term)}
                    self.assertIs(is_within(told, [known.get(one, (0, 1)) for one in places]), True, name)

    def drawn_tables(self):
        """Tables by which some of the sayings hold: drawn small ones, and known ones over a drawn basis."""
        source = some(42)
        tables = [any_products(source, source.choice([1, 2]), 1, 1) for _ in range(12)]
        for products in (TURN, SECOND, STILL, CROSS, UPPER, plain_opposite(SECOND)):
            tables.append(plain_over(products, any_basis(source, len(products))))
        tables.append([rows([0, 0], [0, 0])] * 2)
        # x y = f(x) y + f(y) x, and the products that vanish thrice.
        for size in (2, 3):
            shares = [source.randint(-2, 2) for _ in range(size)]
            tables.append([[row(*[shares[i] * (k == j) + shares[j] * (k == i) for k in range(size)])
                            for j in range(size)] for i in range(size)])
            tables.append([[row(*[0] * (size - 1), source.randint(-2, 2) if max(i, j) < size - 1 else 0)
                            for j in range(size)] for i in range(size)])
        return tables

    def test_each_is_among_the_sayings_of_each_table_by_which_the_told_ones_hold(self):
        found = []
        forms = {name: {many: owed(terms, many) for many in (1, 2, 3, 4)} for name, terms in SAYINGS.items()}
        for products in self.drawn_tables():
            kept = [name for name, terms in SAYINGS.items() if all(keeps(products, term) for term in terms)]
            for many in (1, 2, 3, 4) if kept else ():
                told = sayings_of(Table(products), many)
                for name in kept:
                    for numbers in forms[name][many]:
                        self.assertIs(lies_in(told, numbers), True)
            found += kept
        self.assertEqual([name for name in SAYINGS if name not in found], [])


class Follows(Checks, unittest.TestCase):
    def check(self, term, terms):
        told = self.check_call(follows, {"term": term, "terms": list(terms)})
        parts = plain_expansion(term)
        if parts:
            many = len(plain_leaves(parts[0][1]))
            form = plain_owed(terms, many)
            known = {one: number for number, one in parts}
            numbers = [known.get(one, (0, 1)) for one in plain_monomials("abcd"[:many])]
            self.assertIs(told, lies_in(form, numbers))
        else:
            self.assertIs(told, True)
        return told

    def test_ordinary(self):
        jacobi = plus(times(times(A, B), C), times(times(B, C), A), times(times(C, A), B))
        for term, terms, expected in [
            (less(times(times(A, B), C), times(C, times(A, B))), [EITHER], True), (GROUPED, [EITHER], False),
            (EITHER, [GROUPED], False), (EITHER, [EITHER], True), (take("2/7", EITHER), [EITHER], True),
            (EITHER, [TURNED], False), (TURNED, [EITHER], False), (times(A, B), [EITHER, TURNED], True),
            (jacobi, [TURNED], False), (jacobi, [jacobi], True), (times(A, B), [A], True), (A, [A], True),
            (A, [times(A, B)], False), (times(times(A, B), C), [times(A, B)], True), (GROUPED, [], False),
            (A, [], False), (times(A, B), [times(times(A, B), C)], False),
            (less(times(times(times(A, B), C), D), times(A, times(B, times(C, D)))), [GROUPED], True),
            (less(times(times(A, B), times(C, D)), times(times(A, C), times(B, D))), [GROUPED, EITHER], True),
            (less(times(times(A, B), times(C, D)), times(times(A, C), times(B, D))), [EITHER], False),
            (times(times(A, B), times(C, D)), [times(times(A, B), C)], True),
            (times(A, times(B, times(C, D))), [times(times(A, B), C)], False),
        ]:
            self.assertIs(self.check(term, terms), expected, (term, terms))

    def test_an_empty_expansion_follows_always(self):
        for term in (NOTHING, less(EITHER, EITHER), take(0, times(letter("y"), letter("y")))):
            for terms in ([], [EITHER], [NOTHING], [A]):
                self.assertIs(self.check(term, terms), True)

    def test_nothing_follows_from_nothing(self):
        for term in (A, EITHER, GROUPED, times(times(A, B), times(C, D))):
            for terms in ([], [NOTHING], [NOTHING, less(A, A)]):
                self.assertIs(self.check(term, terms), False)

    def test_drawn_sums_of_what_is_owed(self):
        source = some(51)
        for terms in (SAYINGS["lie"], SAYINGS["left alike"], SAYINGS["grouped"], SAYINGS["zinbiel"]):
            for many in (3, 4):
                form, places = owed(terms, many), monomials(many)
                numbers = plain_sum([n(source.randint(1, 9)) for _ in range(3)], source.sample(form, 3), len(places))
                # A list of the span is noughts if it is so at all first places: one more at another place leads out.
                firsts = [next(at for at, number in enumerate(one) if number[0]) for one in form]
                free = next(at for at in range(len(places)) if at not in firsts)
                beside = list(numbers)
                beside[free] = n(numbers[free][0] + numbers[free][1], numbers[free][1])
                for told, expected in [(numbers, True), (beside, False)]:
                    parts = [(number, one) for number, one in zip(told, places) if number[0]]
                    self.assertIs(self.check(term_of_sum(parts), terms), expected)

    def test_no_table_breaks_what_follows(self):
        jordan = plus(times(times(times(A, B), C), D), times(times(times(A, C), B), D), times(times(times(B, C), A), D))
        self.assertIs(follows(less(jordan, plus(times(D, times(C, times(A, B))), times(D, times(B, times(A, C))),
                                                times(D, times(A, times(B, C))))), [EITHER]), True)
        # Turned about and grouped alike, (ab)c goes round to less than nothing of itself.
        for term in (ROUND, times(times(A, B), C), times(A, times(B, C))):
            self.assertIs(self.check(term, [TURNED, GROUPED]), True)
            self.assertIs(self.check(term, [TURNED]), False)
        self.assertIs(self.check(times(A, B), [TURNED, GROUPED]), False)
