import unittest

from tests.helpers import (
    Checks, any_products, any_row, any_rows, fractions_of, n, plain_form, plain_product, plain_sum, row, rows, some,
)
from tests.plain import any_basis, is_nothing, plain_back, plain_beside, plain_kernel, plain_over, plain_units
from tests.test_parts import CLIMB, CROSS, SECOND, STILL, TURN, UPPER, drawn_tables
from toldproducts.powers import (
    comes_again, first_nothing, first_unlike_power, least_row, power, powers, solved, turned_power, turned_solved,
)
from toldproducts.tables import Table, over

LEAN = [rows([0, 1], [0, 1]), rows([1, 0], [0, 0])]
# Matrices that come again after so many steps: the images of the units, one behind the other.
ROUNDS = {
    1: [[1]], 2: [[-1]], 3: [[0, 1], [-1, -1]], 4: [[0, 1], [-1, 0]], 5: [[0, 1, 0, 0], [0, 0, 1, 0], [0, 0, 0, 1], [-1] * 4],
    6: [[0, 1], [-1, 1]], 8: [[0, 1, 0, 0], [0, 0, 1, 0], [0, 0, 0, 1], [-1, 0, 0, 0]],
    9: [[0, 1, 0, 0, 0, 0], [0, 0, 1, 0, 0, 0], [0, 0, 0, 1, 0, 0], [0, 0, 0, 0, 1, 0], [0, 0, 0, 0, 0, 1],
        [-1, 0, 0, -1, 0, 0]],
    12: [[0, 1, 0, 0], [0, 0, 1, 0], [0, 0, 0, 1], [-1, 0, 1, 0]],
}


def beside(*matrices):
    """The matrix of several, each on its own units."""
    size, lists, begun = sum(map(len, matrices)), [], 0
    for matrix in matrices:
        lists += [[0] * begun + entries + [0] * (size - begun - len(matrix)) for entries in matrix]
        begun += len(matrix)
    return lists


def falling(many):
    """The matrix that leads each unit to the next one, the last one to nothing."""
    return [[int(at == place + 1) for at in range(many)] for place in range(many)]


def acting(matrix):
    """The products by which each unit times the first unit is led by a matrix, times another unit nothing."""
    size = len(matrix)
    return [[row(*entries)] + rows(*[[0] * size] * (size - 1)) for entries in matrix]


def plain_powers(products, entries, many):
    told = [entries] * min(many, 1)
    while len(told) < many:
        told.append(plain_product(products, told[-1], entries))
    return told


def plain_turned(products, entries, many):
    told = [entries] * min(many, 1)
    while len(told) < many:
        told.append(plain_product(products, entries, told[-1]))
    return told


def plain_again(products, entries):
    """The first two of the first thirty-six powers that are alike."""
    told = plain_powers(products, entries, 36)
    for begin in range(36):
        for later in range(begin + 1, 36):
            if told[begin] == told[later]:
                return (begin + 1, later - begin)
    return None


def drawn_cases(seed):
    """Tuples of drawn products and a row, with powers of all kinds."""
    source, found = some(seed), []
    for products in drawn_tables(seed + 1) + [LEAN]:
        size = len(products)
        found += [(products, any_row(source, size, 2)), (products, any_row(source, size, 1)),
                  (products, row(*[0] * size)), (products, source.choice(plain_units(size)))]
    for matrix in [beside(ROUNDS[5], ROUNDS[6]), beside(ROUNDS[3], ROUNDS[8]), beside(falling(2), ROUNDS[12]),
                   beside(ROUNDS[4], falling(3)), beside(falling(6)), ROUNDS[9], beside([[2]], falling(2)),
                   beside([[1, 1], [0, 1]], ROUNDS[2]), beside(ROUNDS[1], ROUNDS[2], ROUNDS[3])]:
        products, basis = acting(matrix), any_basis(source, len(matrix))
        entries = row(*[1] * len(matrix))
        found += [(products, entries), (plain_over(products, basis), plain_sum(entries, plain_back(basis), len(basis)))]
    return found


class Powers(Checks, unittest.TestCase):
    def test_ordinary(self):
        turn, lean = Table(TURN), Table(LEAN)
        self.assertEqual(self.check_call(power, {"table": turn, "row": row(0, 1), "times": 3}), row(0, -1))
        self.assertEqual(self.check_call(turned_power, {"table": turn, "row": row(0, 1), "times": 3}), row(0, -1))
        # The first unit times itself is the other one; that times the first one, and the other way about.
        self.assertEqual(power(lean, row(1, 0), 3), row(1, 0))
        self.assertEqual(turned_power(lean, row(1, 0), 3), row(0, 1))
        self.assertEqual(self.check_call(powers, {"table": lean, "row": row(1, 0), "many": 4}),
                         rows([1, 0], [0, 1], [1, 0], [0, 1]))
        self.assertEqual(powers(turn, row("1/2", "1/2"), 3), rows(["1/2", "1/2"], [0, "1/2"], ["-1/4", "1/4"]))

    def test_drawn(self):
        source = some(202)
        for products, entries in drawn_cases(201):
            table, times = Table(products), source.randint(2, 9)
            one, other = plain_powers(products, entries, times), plain_turned(products, entries, times)
            handed = {"table": table, "row": list(entries), "times": times}
            self.assert_row_like(self.check_call(power, handed), one[-1])
            handed = {"table": table, "row": list(entries), "times": times}
            self.assert_row_like(self.check_call(turned_power, handed), other[-1])
            handed = {"table": table, "row": list(entries), "many": times}
            self.assertEqual(self.check_call(powers, handed), one)

    def test_the_first_ones_and_none(self):
        for products in (TURN, CROSS, CLIMB, [[row(0)]]):
            table, entries = Table(products), any_row(some(203), len(products), 9999, 9999)
            for function in (power, turned_power):
                self.assertEqual(self.check_call(function, {"table": table, "row": list(entries), "times": 1}), entries)
            self.assertEqual(self.check_call(powers, {"table": table, "row": list(entries), "many": 0}), [])
            self.assertEqual(self.check_call(powers, {"table": table, "row": list(entries), "many": 1}), [entries])

    def test_sixty(self):
        source = some(204)
        for products in (TURN, LEAN, UPPER, any_products(source, 3, 9, 4), any_products(source, 6, 3)):
            table, entries = Table(products), any_row(source, len(products), 9, 3)
            one, other = plain_powers(products, entries, 60), plain_turned(products, entries, 60)
            self.assertEqual(powers(table, entries, 60), one)
            self.assertEqual(power(table, entries, 60), one[-1])
            self.assertEqual(turned_power(table, entries, 60), other[-1])
        self.assertEqual(power(Table([[row(1)]]), row(2), 60), [n(2 ** 60)])
        self.assertEqual(powers(Table([[row("1/3")]]), row(3), 60), [row(3)] * 60)

    def test_powers_of_powers(self):
        # Hundreds of digits, told by the program and handed in again.
        source = some(205)
        products = any_products(source, 3, 9999, 9999)
        table = Table(products)
        great = power(table, any_row(source, 3, 9999, 9999), 9)
        self.assertGreater(great[0][1], 10 ** 300)
        self.assertEqual(powers(table, great, 3), plain_powers(products, great, 3))
        self.assertEqual(turned_power(table, great, 3), plain_turned(products, great, 3)[-1])


class LeastRows(Checks, unittest.TestCase):
    def check(self, products, entries):
        told = self.check_call(least_row, {"table": Table(products), "row": list(entries)})
        size, long = len(products), len(told)
        self.assertLessEqual(long, size)
        found = plain_powers(products, entries, size + 14)
        for at in range(long, len(found)):
            self.assertEqual(plain_sum(told, found[at - long:at][::-1], size), found[at])
        # A shorter list would make one of the first powers a sum of those ahead of it.
        self.assertEqual(plain_kernel(found[:long]) if long else [], [])
        return told

    def test_ordinary(self):
        self.assertEqual(self.check(TURN, row(1, 1)), row(2, -2))
        self.assertEqual(self.check(TURN, row(0, 5)), row(0, -25))
        self.assertEqual(self.check(TURN, row(3, 0)), row(3))
        self.assertEqual(self.check(SECOND, row("1/2", "1/3")), row("5/6"))
        self.assertEqual(self.check(acting(ROUNDS[5]), row(1, 0, 0, 0)), row(-1, -1, -1, -1))

    def test_nothing_and_noughts_at_the_end(self):
        for products in (TURN, STILL, [[row(5)]], CLIMB):
            self.assertEqual(self.check(products, row(*[0] * len(products))), [])
        self.assertEqual(self.check([[row(0)]], row(7)), row(0))
        self.assertEqual(self.check(STILL, row(1, 0)), row(0, 0))
        self.assertEqual(self.check(STILL, row(0, 1)), row(0))
        self.assertEqual(self.check(acting(falling(6)), row(1, 0, 0, 0, 0, 0)), row(0, 0, 0, 0, 0, 0))
        self.assertEqual(self.check(acting(beside([[2]], falling(2))), row(1, 1, 0)), row(2, 0, 0))

    def test_drawn(self):
        lengths = set()
        for products, entries in drawn_cases(211):
            told = self.check(products, entries)
            lengths.add((len(told), len(told) and is_nothing(told[-1:])))
        self.assertGreater(len(lengths), 8)

    def test_great_numbers(self):
        source = some(212)
        table = Table(any_products(source, 4, 9999, 9999))
        great = power(table, any_row(source, 4, 9999, 9999), 5)
        self.check(table.products, great)
        turned = over(Table(UPPER), any_rows(source, 3, 3, 9999, 9999))
        self.check(turned.products, power(turned, any_row(source, 3, 9999), 20))


class Nothing(Checks, unittest.TestCase):
    def check(self, products, entries):
        told = self.check_call(first_nothing, {"table": Table(products), "row": list(entries)})
        # Behind more powers than there are units, none is the first one to be nothing.
        expected = [at + 1 for at, one in enumerate(plain_powers(products, entries, 12)) if is_nothing(one)]
        self.assertEqual(told, expected[0] if expected else None)
        return told

    def test_ordinary(self):
        self.assertEqual(self.check(STILL, row(1, 0)), 3)
        self.assertEqual(self.check(STILL, row(0, 1)), 2)
        self.assertEqual(self.check(STILL, row(0, 0)), 1)
        self.assertIs(self.check(TURN, row(0, 1)), None)
        self.assertEqual(self.check(SECOND, row(1, -1)), 2)

    def test_as_late_as_can_be(self):
        for size in range(1, 7):
            entries = row(1, *[0] * (size - 1))
            self.assertEqual(self.check(acting(falling(size)), entries), size + 1)

    def test_drawn(self):
        found = {self.check(products, entries) for products, entries in drawn_cases(221)}
        self.assertLessEqual({None, 1, 2, 7}, found)


class Again(Checks, unittest.TestCase):
    def check(self, products, entries):
        told = self.check_call(comes_again, {"table": Table(products), "row": list(entries)})
        self.assertEqual(told, plain_again(products, entries))
        return told

    def test_ordinary(self):
        self.assertEqual(self.check(TURN, row(0, 1)), (1, 4))
        self.assertEqual(self.check(TURN, row(1, 0)), (1, 1))
        self.assertEqual(self.check(TURN, row(-1, 0)), (1, 2))
        self.assertIs(self.check(TURN, row(1, 1)), None)
        self.assertIs(self.check(TURN, row("3/5", "4/5")), None)
        self.assertEqual(self.check(STILL, row(1, 0)), (3, 1))
        self.assertEqual(self.check(STILL, row(0, 0)), (1, 1))
        self.assertEqual(self.check(LEAN, row(1, 0)), (1, 2))

    def test_late(self):
        for matrices, expected in [
            ((ROUNDS[5], ROUNDS[6]), (1, 30)), ((ROUNDS[3], ROUNDS[8]), (1, 24)), ((ROUNDS[5], ROUNDS[4]), (1, 20)),
            ((ROUNDS[9],), (1, 9)), ((falling(2), ROUNDS[12]), (3, 12)), ((falling(5), ROUNDS[2]), (6, 2)),
            ((falling(1), ROUNDS[5]), (2, 5)), ((falling(6),), (7, 1)), ((ROUNDS[3], ROUNDS[2]), (1, 6)),
        ]:
            matrix = beside(*matrices)
            self.assertEqual(self.check(acting(matrix), row(*[1] * len(matrix))), expected)

    def test_never(self):
        for matrix in [[[2]], [[1, 1], [0, 1]], beside([[1, 1], [0, 1]], falling(2)), beside(ROUNDS[5], [[-2]]),
                       [[0, 1, 0, 0], [-1, 0, 1, 0], [0, 0, 0, 1], [0, 0, -1, 0]]]:
            self.assertIs(self.check(acting(matrix), row(*[1] * len(matrix))), None)

    def test_drawn(self):
        self.assertGreater(len({self.check(products, entries) for products, entries in drawn_cases(231)}), 8)

    def test_great_numbers(self):
        # Over a basis of long numbers the rounds are the same.
        source = some(232)
        products = acting(beside(ROUNDS[5], ROUNDS[6]))
        basis = any_rows(source, 6, 6, 9999, 9999)
        turned = over(Table(products), basis)
        entries = plain_sum(row(1, 1, 1, 1, 1, 1), plain_back(basis), 6)
        self.assertGreater(max(below for _, below in entries), 10 ** 40)
        self.assertEqual(comes_again(turned, entries), (1, 30))
        self.assertEqual(comes_again(turned, power(turned, entries, 17)), plain_again(turned.products, power(turned, entries, 17)))


class UnlikePowers(Checks, unittest.TestCase):
    def check(self, products, entries):
        told = self.check_call(first_unlike_power, {"table": Table(products), "row": list(entries)})
        one, other = plain_powers(products, entries, 20), plain_turned(products, entries, 20)
        expected = [at + 1 for at in range(20) if one[at] != other[at]]
        self.assertEqual(told, expected[0] if expected else None)
        return told

    def test_ordinary(self):
        self.assertIs(self.check(TURN, row(1, 1)), None)
        self.assertEqual(self.check(LEAN, row(1, 0)), 3)
        self.assertIs(self.check(LEAN, row(0, 0)), None)
        self.assertIs(self.check(CROSS, row(1, 2, 3)), None)

    def test_as_late_as_can_be(self):
        for size in range(2, 7):
            for alike in range(3, size + 2):
                # Each unit times the first one, and the other way about, is the next one, up to a place.
                products = [[row(*[0] * size) for _ in range(size)] for _ in range(size)]
                for at in range(alike - 2):
                    products[at][0] = products[0][at] = plain_units(size)[at + 1]
                products[alike - 2][0] = row(*[3] * size)
                self.assertEqual(self.check(products, plain_units(size)[0]), alike)

    def test_drawn(self):
        self.assertLessEqual({None, 3}, {self.check(products, entries) for products, entries in drawn_cases(241)})


def plain_solved(lists, other):
    """The tuple (row, span) of all numbers with which some rows add up to another one, None if there are none."""
    turned = plain_form([[one[at] for one in lists] + [number] for at, number in enumerate(other)])
    solution = [0] * len(lists)
    for entries in turned:
        place = next(at for at, number in enumerate(entries) if number[0])
        if place == len(lists):
            return None
        solution[place] = fractions_of(entries)[-1]
    form = plain_kernel(lists)
    for entries in form:
        lead = fractions_of(entries)
        share = solution[next(at for at, number in enumerate(lead) if number)]
        solution = [number - share * more for number, more in zip(solution, lead)]
    return (row(*solution), form)


class Solved(Checks, unittest.TestCase):
    def check(self, products, one, other):
        units, size = plain_units(len(products)), len(products)
        found = []
        for function, lists in [(solved, [plain_product(products, one, unit) for unit in units]),
                                (turned_solved, [plain_product(products, unit, one) for unit in units])]:
            told = self.check_call(function, {"table": Table(products), "one": list(one), "other": list(other)})
            self.assertEqual(told, plain_solved(lists, other))
            if told is not None:
                self.assertEqual(plain_sum(told[0], lists, size), other)
            found.append(told)
        return found

    def test_ordinary(self):
        self.assertEqual(self.check(TURN, row(0, 1), row(1, 0)), [(row(0, -1), []), (row(0, -1), [])])
        self.assertEqual(self.check(STILL, row(1, 0), row(0, 2)), [(row(2, 0), rows([0, 1]))] * 2)
        self.assertEqual(self.check(STILL, row(1, 0), row(1, 2)), [None, None])
        self.assertEqual(self.check(SECOND, row(2, 3), row(5, 1)), [(row(1, "1/5"), []), None])
        self.assertEqual(self.check(SECOND, row(2, 3), row(4, 6)), [(row("4/5", "6/5"), []), (row(0, 2), rows([1, -1]))])
        self.assertEqual(self.check(SECOND, row(1, -1), row(0, 0)), [(row(0, 0), rows([1, 0], [0, 1])),
                                                                  (row(0, 0), rows([1, -1]))])

    def test_the_row_of_noughts(self):
        for size in (1, 2, 6):
            products = any_products(some(251), size)
            naught, whole = row(*[0] * size), plain_units(size)
            self.assertEqual(self.check(products, naught, naught), [(naught, whole)] * 2)
            self.assertEqual(self.check(products, naught, row(*[1] * size)), [None, None])

    def test_drawn(self):
        source, kinds = some(252), set()
        for products, entries in drawn_cases(253):
            size = len(products)
            wish = any_row(source, size, 9, 4)
            for other in (any_row(source, size, 2), plain_product(products, entries, wish),
                          plain_product(products, wish, entries)):
                kinds |= {told if told is None else len(told[1]) for told in self.check(products, entries, other)}
        self.assertLessEqual({None, 0, 1, 2, 3, 6}, kinds)

    def test_great_numbers(self):
        source = some(254)
        products = any_products(source, 4, 9999, 9999)
        table, entries = Table(products), any_row(source, 4, 9999, 9999)
        told = powers(table, entries, 6)
        self.check(products, told[2], told[3])
        self.assertEqual(turned_solved(table, entries, told[4]), (told[3], []))
        wide = plain_beside(SECOND, any_products(source, 2, 9999, 9999))
        self.check(wide, power(Table(wide), row(1, -1, 70, "1/99"), 30), power(Table(wide), row(0, 0, 70, "1/99"), 31))
