import unittest
from fractions import Fraction

from tests.helpers import Checks, any_products, any_row, any_rows, n, plain_form, plain_product, row, rows, some
from tests.plain import (
    all_products, any_basis, plain_beside, plain_closed, plain_kernel, plain_leaves, plain_over,
    plain_text, plain_units, take_off,
)
from tests.test_parts import CLIMB, CROSS, SECOND, STILL, TURN, UPPER, drawn_sides, drawn_spans, drawn_tables
from toldproducts.chains import down, first_alive, span_by, steps_down, steps_up, up, wordings
from toldproducts.parts import part
from toldproducts.powers import power
from toldproducts.tables import Table, over

KINDS = ("square", "right", "left", "both")
# Three rows of which each two make the next one, so that the order of the brackets tells.
LADDER = [[row(*[int(k == i + 1 and j == 0) for k in range(6)]) for j in range(6)] for i in range(6)]
# Strictly upper triangles of four rows: products of four are noughts.
PLACES = [(i, j) for i in range(4) for j in range(i + 1, 4)]
TRIANGLE = [[row(*[int(b == c and (a, d) == place) for place in PLACES]) for c, d in PLACES] for a, b in PLACES]


def plain_down(products, span, kind):
    forms = [span]
    while True:
        last = forms[-1]
        pairs = {"square": [(last, last)], "right": [(last, span)], "left": [(span, last)],
                 "both": [(last, span), (span, last)]}[kind]
        lists = [one for ones, others in pairs for one in all_products(products, ones, others)]
        lesser = plain_form(lists) if lists else []
        if lesser == last:
            return forms
        forms.append(lesser)


def plain_rest(form, entries):
    """What is left of a row when a form is taken off at its first places."""
    left = {at: Fraction(*number) for at, number in enumerate(entries) if number[0]}
    for lead in form:
        known = {at: Fraction(*number) for at, number in enumerate(lead) if number[0]}
        take_off(left, known, min(known))
    return row(*[left.get(at, 0) for at in range(len(entries))])


def plain_up(products):
    units, forms = plain_units(len(products)), [[]]
    while True:
        lists = [[number for one in units for both in ((unit, one), (one, unit))
                  for number in plain_rest(forms[-1], plain_product(products, *both))] for unit in units]
        wider = plain_kernel(lists)
        if wider == forms[-1]:
            return forms
        forms.append(wider)


def steps_in(forms, end):
    return forms.index(end) if end in forms else None


def plain_wordings(many):
    """All monomials with so many x, in the order of the document's words."""
    if many == 1:
        return ["x"]
    found = [(one, other) for half in range(1, many)
             for one in plain_wordings(half) for other in plain_wordings(many - half)]
    return sorted(found, key=place_of)


def place_of(wording):
    if wording == "x":
        return ()
    return (len(plain_leaves(wording[0])), place_of(wording[0]), place_of(wording[1]))


def plain_span_by(products, span, wording, known=None):
    """The span of all products bracketed so; what was reckoned before may be handed in."""
    known = {"x": span} if known is None else known
    if wording not in known:
        one, other = (plain_span_by(products, span, half, known) for half in wording)
        lists = all_products(products, one, other)
        known[wording] = plain_form(lists) if lists else []
    return known[wording]


def plain_parts(source, products):
    """Some parts of a table: nothing, all rows, what products of drawn rows come up to."""
    size = len(products)
    forms = [[], plain_units(size)]
    return forms + [plain_closed(products, any_rows(source, many, size, 2), kind)[-1]
                    for many in (1, 2) for kind in ("own", "both")]


def chain_tables(seed):
    source = some(seed)
    tables = drawn_tables(seed + 1) + [LADDER, TRIANGLE, CLIMB, [[row(0)]], [[row("2/3")]], plain_beside(TURN, STILL)]
    return tables + [plain_over(products, any_basis(source, len(products))) for products in (LADDER, TRIANGLE)]


class Down(Checks, unittest.TestCase):
    def check(self, products, span, kind):
        expected = plain_down(products, span, kind)
        table = Table(products)
        handed = {"table": table, "span": [list(entries) for entries in span], "kind": kind}
        self.assertEqual(self.check_call(down, handed), expected)
        handed = {"table": table, "span": [list(entries) for entries in span], "kind": kind}
        self.assertEqual(self.check_call(steps_down, handed), steps_in(expected, []))
        return expected

    def test_ordinary(self):
        whole = rows([1, 0], [0, 1])
        self.assertEqual(self.check(STILL, whole, "both"), [whole, rows([0, 1]), []])
        self.assertEqual(self.check(TURN, whole, "left"), [whole])
        self.assertEqual(self.check(SECOND, rows([1, -1]), "square"), [rows([1, -1]), []])
        self.assertEqual(self.check(SECOND, whole, "right"), [whole])
        self.assertEqual(self.check(plain_beside(STILL, TURN), plain_units(4), "left")[-1], rows([0, 0, 1, 0], [0, 0, 0, 1]))

    def test_the_kinds_differ(self):
        whole = plain_units(6)
        # A unit times the first one is the next one: on the right the chain comes down slowly, on the left at once.
        self.assertEqual([len(self.check(LADDER, whole, kind)) - 1 for kind in KINDS], [2, 6, 2, 6])
        self.assertEqual([len(self.check(TRIANGLE, whole, kind)) - 1 for kind in KINDS], [2, 3, 3, 3])
        self.assertEqual([len(self.check(CLIMB, whole, kind)) - 1 for kind in KINDS], [6, 6, 6, 6])
        turned = [[lists[at] for lists in LADDER] for at in range(6)]
        self.assertEqual([len(self.check(turned, whole, kind)) - 1 for kind in KINDS], [2, 2, 6, 6])
        # Of a part its own products count, not those with all rows.
        self.assertEqual(self.check(LADDER, rows([0, 1, 0, 0, 0, 0]), "right"), [rows([0, 1, 0, 0, 0, 0]), []])
        self.assertEqual(self.check(UPPER, rows([0, 1, 0]), "both"), [rows([0, 1, 0]), []])

    def test_nothing(self):
        for products in (TURN, STILL, [[row(1)]], CLIMB):
            for kind in KINDS:
                self.assertEqual(self.check(products, [], kind), [[]])
                self.assertEqual(steps_down(Table(products), [], kind), 0)
        self.assertIs(steps_down(Table(TURN), rows([1, 0], [0, 1]), "left"), None)

    def test_drawn(self):
        source, kinds = some(301), set()
        for products in chain_tables(302):
            for span in plain_parts(source, products):
                for kind in KINDS:
                    forms = self.check(products, span, kind)
                    kinds.add((len(forms), len(forms[-1])))
        self.assertGreater(len(kinds), 12)

    def test_great_numbers(self):
        turned = over(Table(TRIANGLE), any_rows(some(303), 6, 6, 9999, 9999))
        for kind in KINDS:
            self.check(turned.products, plain_units(6), kind)
        table = Table(plain_over(UPPER, any_basis(some(304), 3)))
        span = part(table, [power(table, row(3, "1/7", 9999), 60)])
        for kind in KINDS:
            self.check(table.products, span, kind)


class Up(Checks, unittest.TestCase):
    def check(self, products):
        expected = plain_up(products)
        self.assertEqual(self.check_call(up, {"table": Table(products)}), expected)
        told = self.check_call(steps_up, {"table": Table(products)})
        self.assertEqual(told, steps_in(expected, plain_units(len(products))))
        return expected

    def test_ordinary(self):
        self.assertEqual(self.check(STILL), [[], rows([0, 1]), rows([1, 0], [0, 1])])
        self.assertEqual(self.check(SECOND), [[]])
        self.assertEqual(self.check([rows([0, 0], [0, 0])] * 2), [[], rows([1, 0], [0, 1])])
        self.assertEqual(self.check([[row(0)]]), [[], [row(1)]])
        self.assertEqual(self.check([[row(1)]]), [[]])
        self.assertEqual(len(self.check(LADDER)), 7)
        # Rows that kill all on one side alone are not taken.
        self.assertEqual(self.check([rows([0, 0], [1, 0]), rows([0, 0], [0, 1])]), [[]])

    def test_drawn(self):
        self.assertGreater(len({len(self.check(products)) for products in chain_tables(311)}), 4)

    def test_great_numbers(self):
        self.check(over(Table(TRIANGLE), any_rows(some(312), 6, 6, 9999, 9999)).products)

    def test_as_many_steps_up_as_down(self):
        found = set()
        for products in chain_tables(313) + [products for products, _ in drawn_sides(314)]:
            table = Table(products)
            told = steps_up(table)
            self.assertEqual(told, steps_down(table, plain_units(len(products)), "both"))
            found.add(told)
        self.assertLessEqual({None, 1, 2, 3, 6}, found)


class Wordings(Checks, unittest.TestCase):
    def test_ordinary(self):
        self.assertEqual(self.check_call(wordings, {"many": 3}), [("x", ("x", "x")), (("x", "x"), "x")])
        self.assertEqual(wordings(1), ["x"])
        self.assertEqual(wordings(2), [("x", "x")])
        self.assertEqual([plain_text(one) for one in wordings(4)],
                         ["(x(x(xx)))", "(x((xx)x))", "((xx)(xx))", "((x(xx))x)", "(((xx)x)x)"])

    def test_all(self):
        for many, count in zip(range(1, 7), (1, 1, 2, 5, 14, 42)):
            told = self.check_call(wordings, {"many": many})
            self.assertEqual(told, plain_wordings(many))
            self.assertEqual(len({plain_text(one) for one in told}), count)
            self.assertEqual({"".join(plain_leaves(one)) for one in told}, {"x" * many})


class Bracketed(Checks, unittest.TestCase):
    def check_span(self, products, span, wording):
        handed = {"table": Table(products), "span": [list(entries) for entries in span], "wording": wording}
        told = self.check_call(span_by, handed)
        self.assertEqual(told, plain_span_by(products, span, wording))
        return told

    def check_alive(self, products, span, many):
        handed = {"table": Table(products), "span": [list(entries) for entries in span], "many": many}
        told = self.check_call(first_alive, handed)
        known = {"x": span}
        alive = [wording for wording in plain_wordings(many) if plain_span_by(products, span, wording, known)]
        self.assertEqual(told, alive[0] if alive else None)
        return told

    def test_span_by(self):
        whole = rows([1, 0], [0, 1])
        self.assertEqual(self.check_span(STILL, whole, "x"), whole)
        self.assertEqual(self.check_span(STILL, whole, ("x", "x")), rows([0, 1]))
        self.assertEqual(self.check_span(STILL, whole, ("x", ("x", "x"))), [])
        self.assertEqual(self.check_span(TURN, rows([0, 1]), ("x", "x")), rows([1, 0]))
        one = rows([1, 0, 0, 0, 0, 0])
        self.assertEqual(self.check_span(LADDER, one, ((("x", "x"), "x"), "x")), rows([0, 0, 0, 1, 0, 0]))
        self.assertEqual(self.check_span(LADDER, one, (("x", "x"), ("x", "x"))), [])
        self.assertEqual(self.check_span(LADDER, [], ("x", "x")), [])

    def test_the_rows_of_a_span_need_not_be_alike(self):
        # A cross has no squares, but products of unlike rows.
        self.assertEqual(self.check_span(CROSS, rows([1, 0, 0], [0, 1, 0]), ("x", "x")), rows([0, 0, 1]))
        self.assertEqual(self.check_alive(CROSS, rows([1, 0, 0], [0, 1, 0]), 2), ("x", "x"))
        self.assertIs(self.check_alive(CROSS, rows([1, 2, 3]), 2), None)

    def test_first_alive(self):
        whole = rows([1, 0], [0, 1])
        self.assertEqual(self.check_alive(STILL, whole, 2), ("x", "x"))
        self.assertIs(self.check_alive(STILL, whole, 3), None)
        self.assertIs(self.check_alive(STILL, [], 1), None)
        self.assertEqual(self.check_alive(STILL, rows([1, 5]), 1), "x")
        for many in range(2, 7):
            # Only the last wording is alive: each further row comes on the right.
            self.assertEqual(self.check_alive(LADDER, plain_units(6), many), plain_wordings(many)[-1])
            turned = [[lists[at] for lists in LADDER] for at in range(6)]
            self.assertEqual(self.check_alive(turned, plain_units(6), many), plain_wordings(many)[0])
        self.assertEqual(self.check_alive(TRIANGLE, plain_units(6), 3), ("x", ("x", "x")))
        self.assertIs(self.check_alive(TRIANGLE, plain_units(6), 4), None)

    def test_a_wording_in_the_middle(self):
        # The square of the square alone is alive.
        products = [[row(*[0] * 3) for _ in range(3)] for _ in range(3)]
        products[0][0], products[1][1] = row(0, 1, 0), row(0, 0, 1)
        self.assertEqual(self.check_alive(products, rows([1, 0, 0]), 4), (("x", "x"), ("x", "x")))
        self.assertIs(self.check_alive(products, rows([1, 0, 0]), 3), None)
        self.assertIs(self.check_alive(products, rows([1, 0, 0]), 5), None)

    def test_drawn(self):
        source, found = some(321), set()
        for products in chain_tables(322):
            for span in drawn_spans(source, len(products))[:4]:
                many = source.randint(1, 5)
                told = self.check_alive(products, span, many)
                found.add(told if told is None else plain_text(told))
                self.check_span(products, span, source.choice(plain_wordings(source.randint(1, 6))))
        self.assertGreater(len(found), 4)

    def test_six_places(self):
        source = some(323)
        products = any_products(source, 3, 9, 3)
        for wording in source.sample(plain_wordings(6), 6):
            self.check_span(products, plain_form([any_row(source, 3, 9, 9)]), wording)

    def test_great_numbers(self):
        source = some(324)
        table = Table(any_products(source, 3, 9999, 99))
        span = plain_form([power(table, any_row(source, 3, 99), 40)])
        self.assertGreater(span[0][-1][1], 10 ** 100)
        for wording in plain_wordings(4):
            self.check_span(table.products, span, wording)
        self.check_alive(table.products, span, 4)
        self.check_alive(table.products, [[n(1), n(10 ** 300, 7), n(-1, 10 ** 300)]], 3)
