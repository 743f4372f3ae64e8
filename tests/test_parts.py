import unittest

from tests.helpers import (
    Checks, any_products, any_row, any_rows, n, plain_form, plain_product, plain_sum, row, rows, some,
)
from tests.plain import (
    SAYINGS, all_products, any_basis, any_products_with_a_side, any_term, is_nothing, lies_in, plain_back, plain_beside,
    plain_closed, plain_kernel, plain_over, plain_units, tuples_in,
)
from toldproducts.parts import (
    goes_between, grown, held_by, is_part, is_two_sided, killers, led_down, left_over, left_part, part, part_table,
    products_of, right_part, two_sided,
)
from toldproducts.sayings import holds, sayings_of
from toldproducts.tables import Table

TURN = [rows([1, 0], [0, 1]), rows([0, 1], [-1, 0])]
SECOND = [rows([1, 0], [0, 1]), rows([1, 0], [0, 1])]
STILL = [rows([0, 1], [0, 0]), rows([0, 0], [0, 0])]
CROSS = [rows([0, 0, 0], [0, 0, 1], [0, -1, 0]), rows([0, 0, -1], [0, 0, 0], [1, 0, 0]),
         rows([0, 1, 0], [-1, 0, 0], [0, 0, 0])]
UPPER = [rows([1, 0, 0], [0, 1, 0], [0, 0, 0]), rows([0, 0, 0], [0, 0, 0], [0, 1, 0]),
         rows([0, 0, 0], [0, 0, 0], [0, 0, 1])]
# The square of each of six units is the next one: parts grow by one row a step.
CLIMB = [[row(*[int(i == j and k == i + 1) for k in range(6)]) for j in range(6)] for i in range(6)]
GREAT = 10 ** 400 + 69


def drawn_tables(seed):
    """Drawn tables of sizes 1 to 6, some of them with many noughts or with two-sided parts."""
    source = some(seed)
    tables = [any_products(source, size, most, below) for size in (1, 2, 3) for most, below in [(1, 1), (9, 4)]]
    tables += [any_products_with_a_side(source, size, many) for size, many in [(2, 1), (3, 1), (3, 2), (4, 2), (6, 3)]]
    return tables + [plain_over(products, any_basis(source, len(products))) for products in (
        TURN, SECOND, STILL, CROSS, UPPER, CLIMB, plain_beside(TURN, SECOND), plain_beside(CROSS, STILL))]


def drawn_sides(seed):
    """Tuples of drawn tables and a two-sided part of each, which is neither empty nor all rows, over a drawn basis."""
    source, found = some(seed), []
    for size, many in [(2, 1), (3, 1), (3, 2), (4, 2), (5, 2), (6, 3), (6, 5)]:
        products, basis = any_products_with_a_side(source, size, many), any_basis(source, size)
        found.append((plain_over(products, basis), plain_form(plain_back(basis)[size - many:])))
    for products, lists in [(STILL, rows([0, 1])), (SECOND, rows([1, -1])), (UPPER, rows([0, 1, 0])),
                            (plain_beside(TURN, SECOND), rows([1, 0, 0, 0], [0, 1, 0, 0])),
                            (plain_beside(CROSS, UPPER), rows([0, 0, 0, 0, 1, 0])),
                            (CLIMB, rows([0, 0, 0, 0, 1, 0], [0, 0, 0, 0, 0, 1]))]:
        found.append((products, lists))
        basis = any_basis(source, len(products))
        back = plain_back(basis)
        found.append((plain_over(products, basis), plain_form([plain_sum(one, back, len(back)) for one in lists])))
    return found


def drawn_spans(source, size):
    """The empty span, all rows, and drawn ones."""
    return [[], plain_units(size)] + [plain_form(any_rows(source, source.randint(1, size), size, 2)) for _ in range(3)]


class Products(Checks, unittest.TestCase):
    def test_ordinary(self):
        handed = {"table": Table(TURN), "one": rows([1, 2]), "other": rows([1, 1])}
        self.assertEqual(self.check_call(products_of, handed), rows([1, -3]))
        whole = rows([1, 0], [0, 1])
        self.assertEqual(products_of(Table(STILL), whole, whole), rows([0, 1]))
        self.assertEqual(products_of(Table(SECOND), rows([1, -1]), whole), [])
        self.assertEqual(products_of(Table(SECOND), whole, rows([1, -1])), rows([1, -1]))

    def test_drawn(self):
        source = some(61)
        for products in drawn_tables(62):
            for one in drawn_spans(source, len(products)):
                for other in drawn_spans(source, len(products)):
                    told = products_of(Table(products), one, other)
                    self.assertEqual(told, plain_form(all_products(products, one, other)))

    def test_empty_ones(self):
        for size in (1, 2, 6):
            table, whole = Table(any_products(some(63), size)), plain_units(size)
            for one, other in [([], []), ([], whole), (plain_units(size), [])]:
                self.assertEqual(products_of(table, one, other), [])
            self.assertEqual(self.check_call(products_of, {"table": table, "one": [], "other": whole}), [])


class Least(Checks, unittest.TestCase):
    def check(self, products, lists):
        table = Table(products)
        for function, kind in [(left_part, "left"), (right_part, "right"), (two_sided, "both"), (part, "own")]:
            told = self.check_call(function, {"table": table, "rows": [list(entries) for entries in lists]})
            self.assertEqual(told, plain_closed(products, lists, kind)[-1])
        forms = self.check_call(grown, {"table": table, "rows": [list(entries) for entries in lists]})
        self.assertEqual(forms, plain_closed(products, lists, "own"))
        # As many steps as rows at most.
        self.assertLessEqual(len(forms) - 1, len(forms[-1]))
        return forms

    def test_ordinary(self):
        for function, products, lists, expected in [
            (part, TURN, rows([0, 1]), rows([1, 0], [0, 1])), (part, SECOND, rows([0, 1]), rows([0, 1])),
            (part, CROSS, rows([1, 1, 0]), rows([1, 1, 0])), (two_sided, SECOND, rows([1, -1]), rows([1, -1])),
            (left_part, SECOND, rows([0, 1]), rows([0, 1])), (right_part, SECOND, rows([0, 1]), rows([1, 0], [0, 1])),
            (right_part, SECOND, rows([2, -2]), rows([1, -1])), (two_sided, UPPER, rows([0, 3, 0]), rows([0, 1, 0])),
            (left_part, UPPER, rows([0, 0, 1]), rows([0, 1, 0], [0, 0, 1])),
            (right_part, UPPER, rows([0, 0, 1]), rows([0, 0, 1])),
        ]:
            self.assertEqual(function(Table(products), lists), expected)
        self.assertEqual(grown(Table(STILL), rows([1, 0])), [rows([1, 0]), rows([1, 0], [0, 1])])

    def test_grown_step_by_step(self):
        forms = self.check(CLIMB, rows([1, 0, 0, 0, 0, 0]))
        self.assertEqual([len(form) for form in forms], [1, 2, 3, 4, 5, 6])
        self.assertEqual([len(form) for form in grown(Table(CLIMB), rows([0, 0, 2, 0, 0, 0]))], [1, 2, 3, 4])

    def test_no_rows_noughts_and_all_rows(self):
        for products in drawn_tables(64):
            size = len(products)
            for lists in ([], rows([0] * size), rows([0] * size, [0] * size)):
                self.assertEqual(self.check(products, lists), [[]])
            self.assertEqual(self.check(products, plain_units(size)), [plain_units(size)])

    def test_drawn(self):
        source = some(65)
        for products in drawn_tables(66):
            size = len(products)
            for many in (1, 1, 2, 8):
                lists = any_rows(source, many, size, source.choice([1, 9]), 2)
                self.check(products, [entries if source.randint(0, 2) else row(*[0] * size) for entries in lists])
            for entries in plain_units(size):
                self.check(products, [entries])

    def test_numbers_of_four_digits(self):
        source = some(67)
        for size in (1, 2, 3, 4, 6):
            self.check(any_products(source, size, 9999, 9999), any_rows(source, 1, size, 9999, 9999))
            self.check(any_products_with_a_side(source, size, size // 2, 9999, 9999), [plain_units(size)[-1]])

    def test_great_numbers_that_the_program_told(self):
        source = some(68)
        products = plain_over(any_products_with_a_side(source, 4, 2, 9999, 9999), any_basis(source, 4, 99))
        forms = grown(Table(products), [any_row(source, 4, 9999, 9999)])
        great = [entries for form in forms for entries in form]
        self.assertGreater(max(number[0].bit_length() for entries in great for number in entries), 100)
        self.check(products, great[:2])
        exchanged = [great[1][1], *great[1][:1], *great[1][2:]]
        self.check(products, [exchanged])
        self.check(any_products(source, 2), [great[1][1:3]])


class Tests(Checks, unittest.TestCase):
    def check(self, products, form):
        handed = {"table": Table(products), "span": form}
        own = all_products(products, form, form)
        units = plain_units(len(products))
        sides = all_products(products, units, form) + all_products(products, form, units)
        for function, found in [(is_part, own), (is_two_sided, sides)]:
            expected = all(lies_in(form, entries) for entries in found)
            told = self.check_call(function, {**handed, "span": [list(entries) for entries in form]})
            self.assertIs(told, expected)

    def test_ordinary(self):
        for products, form, expected in [
            (TURN, rows([1, 0]), (True, False)), (TURN, rows([0, 1]), (False, False)),
            (SECOND, rows([1, -1]), (True, True)), (SECOND, rows([0, 1]), (True, False)),
            (STILL, rows([0, 1]), (True, True)), (STILL, rows([1, 2]), (False, False)),
            (CROSS, rows([1, 2, 3]), (True, False)), (UPPER, rows([1, 0, 0], [0, 1, 0]), (True, True)),
        ]:
            self.assertEqual((is_part(Table(products), form), is_two_sided(Table(products), form)), expected)
            self.check(products, form)

    def test_empty_and_all(self):
        for products in drawn_tables(71):
            for form in ([], plain_units(len(products))):
                self.assertIs(is_part(Table(products), form), True)
                self.assertIs(is_two_sided(Table(products), form), True)
                self.check(products, form)

    def test_drawn(self):
        source = some(72)
        for products in drawn_tables(73):
            lists = any_rows(source, 1, len(products), 2)
            for form in drawn_spans(source, len(products)) + [
                    plain_closed(products, lists, kind)[-1] for kind in ("own", "left", "right", "both")]:
                self.check(products, form)
        for products, form in drawn_sides(74):
            self.check(products, form)
            self.assertIs(is_two_sided(Table(products), form), True)


class Killing(Checks, unittest.TestCase):
    def check(self, products, form):
        units, table = plain_units(len(products)), Table(products)
        lefts = [[number for s in form for number in plain_product(products, unit, s)] for unit in units]
        rights = [[number for s in form for number in plain_product(products, s, unit)] for unit in units]
        told = self.check_call(killers, {"table": table, "span": [list(entries) for entries in form]})
        self.assertEqual(told, (plain_kernel(lefts), plain_kernel(rights)))
        self.assertEqual([type(told), len(told)], [tuple, 2])
        inside = self.check_call(held_by, {"table": table, "span": [list(entries) for entries in form]})
        for unit in units:
            self.assertIs(lies_in(inside, unit), self.is_held(products, form, unit))
        for entries in inside:
            self.assertIs(self.is_held(products, form, entries), True)
        self.assertEqual(inside, plain_kernel([self.rests(products, form, unit) for unit in units]))

    def is_held(self, products, form, entries):
        both = all_products(products, [entries], form) + all_products(products, form, [entries])
        return all(lies_in(form, product) for product in both)

    def rests(self, products, form, unit):
        """What is left of the products when the rows of the form are taken off at their first places."""
        found = []
        for product in all_products(products, [unit], form) + all_products(products, form, [unit]):
            firsts = [next(at for at, number in enumerate(entries) if number[0]) for entries in form]
            shares = [n(-product[at][0], product[at][1]) for at in firsts]
            found += plain_sum([n(1), *shares], [product, *form], len(product))
        return found

    def test_ordinary(self):
        whole = rows([1, 0], [0, 1])
        self.assertEqual(killers(Table(SECOND), whole), (rows([1, -1]), []))
        self.assertEqual(killers(Table(SECOND), rows([1, -1])), (rows([1, -1]), whole))
        self.assertEqual(killers(Table(STILL), rows([1, 0])), (rows([0, 1]), rows([0, 1])))
        self.assertEqual(killers(Table(UPPER), rows([0, 1, 0])), (rows([0, 1, 0], [0, 0, 1]), rows([1, 0, 0], [0, 1, 0])))
        self.assertEqual(held_by(Table(UPPER), rows([0, 0, 1])), rows([1, 0, 0], [0, 0, 1]))
        self.assertEqual(held_by(Table(CROSS), rows([1, 0, 0])), rows([1, 0, 0]))
        self.assertEqual(held_by(Table(STILL), rows([1, 0])), rows([0, 1]))

    def test_empty_and_all(self):
        for products in drawn_tables(75):
            units = plain_units(len(products))
            self.assertEqual(killers(Table(products), []), (units, units))
            self.assertEqual(held_by(Table(products), []), units)
            self.assertEqual(held_by(Table(products), units), units)
            self.check(products, [])
            self.check(products, units)

    def test_drawn(self):
        source = some(76)
        for products in drawn_tables(77):
            for form in drawn_spans(source, len(products)):
                self.check(products, form)
        for products, form in drawn_sides(78):
            self.check(products, form)
            self.assertEqual(held_by(Table(products), form), plain_units(len(products)))


class Inside(Checks, unittest.TestCase):
    def check(self, products, form):
        """The table of a part multiplies lists of numbers as the table multiplies their sums of the form's rows."""
        told = self.check_call(part_table, {"table": Table(products), "span": [list(entries) for entries in form]})
        self.assertEqual(told.size, len(form))
        for i, one in enumerate(form):
            for j, other in enumerate(form):
                self.assertEqual(plain_sum(told.products[i][j], form, len(products)), plain_product(products, one, other))

    def test_ordinary(self):
        self.assertEqual(part_table(Table(TURN), rows([1, 0])), Table([[row(1)]]))
        self.assertEqual(part_table(Table(TURN), rows([1, 0], [0, 1])), Table(TURN))
        self.assertEqual(part_table(Table(SECOND), rows([1, "1/2"])), Table([[row("3/2")]]))
        self.assertEqual(part_table(Table(CROSS), rows([1, 2, 3])), Table([[row(0)]]))
        upper = part_table(Table(UPPER), rows([0, 1, 0], [0, 0, 1]))
        self.assertEqual(upper, Table([rows([0, 0], [1, 0]), rows([0, 0], [0, 1])]))

    def test_drawn(self):
        source = some(81)
        for products in drawn_tables(82):
            for many in (1, 1, 2, 6):
                form = plain_closed(products, any_rows(source, many, len(products), 2), "own")[-1]
                if form:
                    self.check(products, form)
            self.check(products, plain_units(len(products)))
        for products, form in drawn_sides(83):
            self.check(products, form)

    def test_a_part_keeps_sayings(self):
        for products, form in drawn_sides(84):
            for many in (1, 2, 3):
                kept = sayings_of(part_table(Table(products), form), many)
                for numbers in sayings_of(Table(products), many):
                    self.assertIs(lies_in(kept, numbers), True)


class Over(Checks, unittest.TestCase):
    def check(self, products, form):
        """Rows led down multiply as they do in the table, the rows of the span go to noughts, free units to units."""
        table, size = Table(products), len(products)
        less = self.check_call(left_over, {"table": table, "span": [list(entries) for entries in form]})
        self.assertEqual(less.size, size - len(form))
        units = plain_units(size)
        downs = [self.check_call(led_down, {"table": table, "span": [list(entries) for entries in form], "row": unit})
                 for unit in units]
        units = plain_units(size)
        for one, down in zip(units, downs):
            for other, below in zip(units, downs):
                product = led_down(table, form, plain_product(products, one, other))
                self.assertEqual(plain_product(less.products, down, below), product)
        for entries in form:
            self.assertTrue(is_nothing(led_down(table, form, entries)))
            self.assertEqual(plain_sum(entries, downs, less.size), led_down(table, form, entries))
        firsts = [next(at for at, number in enumerate(entries) if number[0]) for entries in form]
        free = [down for at, down in enumerate(downs) if at not in firsts]
        self.assertEqual(free, plain_units(size - len(form)))
        return less

    def test_ordinary(self):
        self.assertEqual(left_over(Table(SECOND), rows([1, -1])), Table([[row(1)]]))
        self.assertEqual(led_down(Table(SECOND), rows([1, -1]), row(3, 4)), row(7))
        self.assertEqual(left_over(Table(STILL), rows([0, 1])), Table([[row(0)]]))
        self.assertEqual(led_down(Table(STILL), rows([0, 1]), row(5, 7)), row(5))
        self.assertEqual(left_over(Table(UPPER), rows([0, 1, 0])), Table([rows([1, 0], [0, 0]), rows([0, 0], [0, 1])]))

    def test_over_nothing(self):
        for products in drawn_tables(85):
            self.assertEqual(self.check(products, []), Table(products))
            entries = any_row(some(86), len(products), 9999, 9999)
            self.assertEqual(led_down(Table(products), [], entries), entries)

    def test_drawn(self):
        source = some(87)
        for products, form in drawn_sides(88):
            self.check(products, form)
            size = len(products)
            for entries in any_rows(source, 3, size, 9999, 9999):
                told = led_down(Table(products), form, entries)
                downs = [led_down(Table(products), form, unit) for unit in plain_units(size)]
                self.assert_row_like(told, plain_sum(entries, downs, size - len(form)))

    def test_what_is_left_over_keeps_each_saying(self):
        source = some(89)
        for products, form in drawn_sides(90):
            table, less = Table(products), left_over(Table(products), form)
            for many in (1, 2, 3):
                kept = sayings_of(less, many)
                for numbers in sayings_of(table, many):
                    self.assertIs(lies_in(kept, numbers), True)
            terms = [term for terms in SAYINGS.values() for term in terms]
            terms += [term for term in [any_term(source, "ab", 3, 4) for _ in range(30)] if tuples_in(term) <= 24]
            for term in terms:
                if holds(table, term):
                    self.assertIs(holds(less, term), True)

    def test_four_letters(self):
        for products, form in drawn_sides(91):
            if len(products) <= 3:
                kept = sayings_of(left_over(Table(products), form), 4)
                for numbers in sayings_of(Table(products), 4):
                    self.assertIs(lies_in(kept, numbers), True)


class Between(Checks, unittest.TestCase):
    def check(self, products, one, other, entries):
        firsts = all_products(products, all_products(products, one, [entries]), other)
        lasts = all_products(products, one, all_products(products, [entries], other))
        told = self.check_call(goes_between, {
            "table": Table(products), "one": [list(x) for x in one], "other": [list(y) for y in other],
            "row": list(entries)})
        self.assertEqual(told, plain_form(firsts + lasts))
        return told

    def test_ordinary(self):
        whole = rows([1, 0], [0, 1])
        self.assertEqual(self.check(SECOND, whole, whole, row(1, 1)), whole)
        self.assertEqual(self.check(SECOND, whole, whole, row(1, -1)), [])
        self.assertEqual(self.check(TURN, rows([1, 0]), rows([1, 0]), row(2, 3)), rows([1, "3/2"]))
        self.assertEqual(self.check(STILL, whole, whole, row(1, 1)), [])
        # Here x (row y) tells more than (x row) y alone, and the other way about.
        lean = [rows([0, 1], [0, 0]), rows([1, 0], [0, 0])]
        self.assertEqual(self.check(lean, rows([1, 0]), rows([1, 0]), row(1, 0)), rows([1, 0]))
        turned = [rows([0, 1], [1, 0]), rows([0, 0], [0, 0])]
        self.assertEqual(self.check(turned, rows([1, 0]), rows([1, 0]), row(1, 0)), rows([1, 0]))

    def test_empty_ones(self):
        for products in drawn_tables(92):
            units = plain_units(len(products))
            for one, other in [([], []), ([], units), (units, [])]:
                self.assertEqual(self.check(products, one, other, units[0]), [])
            self.assertEqual(self.check(products, units, units, row(*[0] * len(products))), [])

    def test_drawn(self):
        source = some(93)
        for products in drawn_tables(94):
            for one in drawn_spans(source, len(products)):
                other = source.choice(drawn_spans(source, len(products)))
                self.check(products, one, other, any_row(source, len(products), 9999, 9999))


class GreatNumbers(Checks, unittest.TestCase):
    def test_spans_that_the_program_told(self):
        source = some(95)
        products = any_products_with_a_side(source, 4, 2, 9999, 9999)
        basis = any_basis(source, 4, 9)
        turned, side = plain_over(products, basis), plain_form(plain_back(basis)[2:])
        forms = grown(Table(turned), [any_row(source, 4, 9999, 9999)])
        great = forms[1]
        self.assertGreater(max(number[0].bit_length() for entries in great for number in entries), 100)
        self.assertEqual(products_of(Table(turned), great, side), plain_form(all_products(turned, great, side)))
        Tests.check(self, turned, great)
        Killing.check(self, turned, great)
        Between.check(self, turned, great, side, great[0])
        Over.check(self, turned, side)
        down = led_down(Table(turned), side, great[0])
        self.assertEqual(len(down), 2)

    def test_a_span_of_a_great_number(self):
        form = [[n(1), n(GREAT, 7)]]
        self.assertEqual(products_of(Table(SECOND), form, form), form)
        self.assertEqual(part_table(Table(SECOND), form), Table([[[n(GREAT + 7, 7)]]]))
        self.assertEqual(led_down(Table([rows([0, 0], [0, 0])] * 2), form, row(1, 0)), [n(-GREAT, 7)])

    is_held, rests = Killing.is_held, Killing.rests
