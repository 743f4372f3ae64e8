"""The examples of the interface, as they stand in the document."""

import doctest
import unittest

ROWS = """
>>> from toldproducts.rows import joined, met, places, relations, span, told_by
>>> [span([[(2, 1), (4, 1)], [(1, 1), (2, 1)]], 2), places([[(1, 1), (2, 1)]], [(3, 1), (6, 1)]), told_by([(0, 1), (1, 1)], [[(1, 1), (0, 1)], [(2, 1), (0, 1)], [(1, 1), (1, 1)]])]
[[[(1, 1), (2, 1)]], [(3, 1)], [(-1, 1), (0, 1), (1, 1)]]
>>> [relations([[(1, 1)], [(2, 1)]]), joined([[(1, 1), (0, 1)]], [[(1, 1), (1, 1)]], 2), met([[(1, 1), (0, 1)]], [[(1, 1), (1, 1)]], 2)]
[[[(1, 1), (-1, 2)]], [[(1, 1), (0, 1)], [(0, 1), (1, 1)]], []]
"""

TABLES = """
>>> from toldproducts.tables import Table, both_ways, left_ones, ones, opposite, over, with_one
>>> turn = Table([[[(1, 1), (0, 1)], [(0, 1), (1, 1)]], [[(0, 1), (1, 1)], [(-1, 1), (0, 1)]]])
>>> [turn([(0, 1), (1, 1)], [(0, 1), (2, 1)]), turn.size, ones(turn), opposite(turn) == turn, both_ways(turn, (-1, 1)).products[0][1], over(turn, [[(0, 1), (1, 1)], [(1, 1), (0, 1)]]).products[0][0]]
[[(-2, 1), (0, 1)], 2, [(1, 1), (0, 1)], True, [(0, 1), (0, 1)], [(0, 1), (-1, 1)]]
>>> second = Table([[[(1, 1), (0, 1)], [(0, 1), (1, 1)]], [[(1, 1), (0, 1)], [(0, 1), (1, 1)]]])
>>> [ones(second), left_ones(second), second([(3, 1), (4, 1)], [(1, 1), (2, 1)])]
[None, ([(0, 1), (1, 1)], [[(1, 1), (-1, 1)]]), [(7, 1), (14, 1)]]
"""

SAYINGS = TABLES + """
>>> from toldproducts.sayings import expanded, first_breaking, follows, holds, linear, monomials, sayings_of, worth
>>> a, b, c = ("letter", "a"), ("letter", "b"), ("letter", "c")
>>> less = lambda one, other: ("plus", one, ("take", (-1, 1), other))
>>> grouped, either = less(("times", ("times", a, b), c), ("times", a, ("times", b, c))), less(("times", a, b), ("times", b, a))
>>> [expanded(either), linear(("times", a, a)), monomials(2), worth(turn, either, [[(1, 1), (2, 1)], [(3, 1), (4, 1)]])]
[[((1, 1), ('a', 'b')), ((-1, 1), ('b', 'a'))], [[((1, 1), ('a', 'b')), ((1, 1), ('b', 'a'))]], [('a', 'b'), ('b', 'a')], [(0, 1), (0, 1)]]
>>> [holds(turn, either), holds(second, grouped), first_breaking(second, either), sayings_of(turn, 2), follows(less(("times", ("times", a, b), c), ("times", c, ("times", a, b))), [either]), follows(grouped, [either])]
[True, True, [[(1, 1), (0, 1)], [(0, 1), (1, 1)]], [[(1, 1), (-1, 1)]], True, False]
"""

PARTS = TABLES + """
>>> from toldproducts.parts import is_two_sided, killers, left_over, part, two_sided
>>> [part(turn, [[(0, 1), (1, 1)]]), part(second, [[(0, 1), (1, 1)]]), two_sided(second, [[(1, 1), (-1, 1)]]), killers(second, [[(1, 1), (0, 1)], [(0, 1), (1, 1)]]), left_over(second, [[(1, 1), (-1, 1)]]).products]
[[[(1, 1), (0, 1)], [(0, 1), (1, 1)]], [[(0, 1), (1, 1)]], [[(1, 1), (-1, 1)]], ([[(1, 1), (-1, 1)]], []), [[[(1, 1)]]]]
"""

KEEPERS = TABLES + """
>>> from toldproducts.keepers import along, commuting, first_unlike_product, keepers, nucleus
>>> still = Table([[[(0, 1), (1, 1)], [(0, 1), (0, 1)]], [[(0, 1), (0, 1)], [(0, 1), (0, 1)]]])
>>> [keepers(turn, (1, 1), (1, 1), (1, 1)), keepers(still, (1, 1), (1, 1), (1, 1)), along([[(0, 1), (1, 1)], [(0, 1), (0, 1)]], [(3, 1), (5, 1)])]
[[], [[[(1, 1), (0, 1)], [(0, 1), (2, 1)]], [[(0, 1), (1, 1)], [(0, 1), (0, 1)]]], [(0, 1), (3, 1)]]
>>> [commuting(second), nucleus(second, 1), first_unlike_product(turn, turn, [[(1, 1), (0, 1)], [(0, 1), (-1, 1)]]), first_unlike_product(turn, turn, [[(1, 1), (0, 1)], [(0, 1), (2, 1)]])]
[[], [[(1, 1), (0, 1)], [(0, 1), (1, 1)]], None, (1, 1)]
"""

POWERS = KEEPERS + """
>>> from toldproducts.powers import comes_again, first_nothing, first_unlike_power, least_row, power, solved
>>> [power(turn, [(0, 1), (1, 1)], 3), least_row(turn, [(1, 1), (1, 1)]), comes_again(turn, [(0, 1), (1, 1)]), first_nothing(still, [(1, 1), (0, 1)]), solved(turn, [(0, 1), (1, 1)], [(1, 1), (0, 1)]), solved(still, [(1, 1), (0, 1)], [(0, 1), (2, 1)])]
[[(0, 1), (-1, 1)], [(2, 1), (-2, 1)], (1, 4), 3, ([(0, 1), (-1, 1)], []), ([(2, 1), (0, 1)], [[(0, 1), (1, 1)]])]
>>> lean = Table([[[(0, 1), (1, 1)], [(0, 1), (1, 1)]], [[(1, 1), (0, 1)], [(0, 1), (0, 1)]]])
>>> [first_unlike_power(turn, [(1, 1), (1, 1)]), first_unlike_power(lean, [(1, 1), (0, 1)]), comes_again(turn, [(1, 1), (1, 1)])]
[None, 3, None]
"""

CHAINS = KEEPERS + """
>>> from toldproducts.chains import down, first_alive, steps_down, steps_up, up, wordings
>>> whole = [[(1, 1), (0, 1)], [(0, 1), (1, 1)]]
>>> [down(still, whole, "both"), steps_down(still, whole, "square"), steps_down(turn, whole, "left"), up(still), steps_up(second)]
[[[[(1, 1), (0, 1)], [(0, 1), (1, 1)]], [[(0, 1), (1, 1)]], []], 2, None, [[], [[(0, 1), (1, 1)]], [[(1, 1), (0, 1)], [(0, 1), (1, 1)]]], None]
>>> [wordings(3), first_alive(still, whole, 2), first_alive(still, whole, 3)]
[[('x', ('x', 'x')), (('x', 'x'), 'x')], ('x', 'x'), None]
"""

FORMS = KEEPERS + """
>>> from toldproducts.forms import form_worth, is_even, moved_forms, null_span, trace_form
>>> [moved_forms(turn), trace_form(turn), form_worth(trace_form(turn), [(1, 1), (2, 1)], [(0, 1), (1, 1)]), null_span(trace_form(still), 0), is_even(trace_form(turn))]
[[[[(1, 1), (0, 1)], [(0, 1), (-1, 1)]], [[(0, 1), (1, 1)], [(1, 1), (0, 1)]]], [[(2, 1), (0, 1)], [(0, 1), (-2, 1)]], (-4, 1), [[(1, 1), (0, 1)], [(0, 1), (1, 1)]], True]
"""

TICKETS = TABLES + """
>>> from toldproducts.tickets import lines_shown, shown, ticket_for
>>> [shown(turn, [[(0, 1), (1, 1)]], [("take", 0), ("times", 0, 0)]), lines_shown(turn, [[(0, 1), (1, 1)]], [("take", 0), ("ahead", 1, 0), ("sum", [((1, 2), 0), ((3, 1), 1)])]), ticket_for(second, [[(0, 1), (1, 1)]], [(1, 1), (0, 1)], False), shown(turn, [[(0, 1), (1, 1)]], ticket_for(turn, [[(0, 1), (1, 1)]], [(5, 1), (0, 1)], False))]
[[(-1, 1), (0, 1)], [[(0, 1), (1, 1)], [(-1, 1), (0, 1)], [(-3, 1), (1, 2)]], None, [(5, 1), (0, 1)]]
"""

READINGS = SAYINGS + """
>>> from toldproducts.readings import read_row, read_table, read_term
>>> from toldproducts.texts import show_table, show_term
>>> [show_table(turn), read_table("1 0 ; 0 1 | 0 1 ; -1 0") == turn, show_term(either), read_term("((a b) + -1[(b a)])") == either, read_row("1/2 -3")]
['1 0 ; 0 1 | 0 1 ; -1 0', True, '((a b) + -1[(b a)])', True, [(1, 2), (-3, 1)]]
"""

DESKS = TABLES + """
>>> from toldproducts.desks import Desk
>>> desk = Desk(second)
>>> [desk.order("put a 1 -1"), desk.order("sided s a"), desk.order("show s"), desk.order("lies a s"), desk.order("breaks ((a b) + -1[(b a)])"), len(desk), desk.order("undo"), desk.order("names")]
['done', 'done', '1 -1', 'yes', '1 0 ; 0 1', 2, 'done', 'a']
"""


class Examples(unittest.TestCase):
    def check(self, text, name):
        test = doctest.DocTestParser().get_doctest(text, {}, name, name, 0)
        told = []
        results = doctest.DocTestRunner(verbose=False).run(test, out=told.append)
        self.assertGreater(results.attempted, 0)
        self.assertEqual(results.failed, 0, "".join(told))

    def test_rows(self):
        self.check(ROWS, "rows")

    def test_tables(self):
        self.check(TABLES, "tables")

    def test_sayings(self):
        self.check(SAYINGS, "sayings")

    def test_parts(self):
        self.check(PARTS, "parts")

    def test_keepers(self):
        self.check(KEEPERS, "keepers")

    def test_powers(self):
        self.check(POWERS, "powers")

    def test_chains(self):
        self.check(CHAINS, "chains")

    def test_forms(self):
        self.check(FORMS, "forms")

    def test_tickets(self):
        self.check(TICKETS, "tickets")

    def test_texts_and_readings(self):
        self.check(READINGS, "readings")

    def test_desks(self):
        self.check(DESKS, "desks")
