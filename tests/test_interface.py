"""The names and arguments of the interface, and where they are defined."""

import importlib
import inspect
import unittest

FUNCTIONS = {
    "rows": """number(above, below) unit(size, place) noughts(size) sum_of(one, other) times(number, row)
        combined(numbers, rows, size) span(rows, size) is_within(span, row) places(span, row) told_by(row, rows)
        relations(rows) joined(one, other, size) met(one, other, size)""",
    "tables": """left_map(table, row) right_map(table, row) opposite(table) both_ways(table, number)
        blended(one, other, number) beside(one, other) crossed(one, other) over(table, rows) changed(table, left, right)
        with_one(table) ones(table) left_ones(table) right_ones(table)""",
    "sayings": """letters(term) worth(table, term, rows) expanded(term) degrees(term) same_everywhere(one, other)
        holds(table, term) first_breaking(table, term) is_linear(term) linear(term) monomials(many)
        sayings_of(table, many) owed(terms, many) follows(term, terms)""",
    "parts": """products_of(table, one, other) part(table, rows) left_part(table, rows) right_part(table, rows)
        two_sided(table, rows) grown(table, rows) is_part(table, span) is_two_sided(table, span) killers(table, span)
        held_by(table, span) part_table(table, span) left_over(table, span) led_down(table, span, row)
        goes_between(table, one, other, row)""",
    "keepers": """along(told, row) behind(one, other) bracket(one, other) keepers(table, u, v, w)
        first_not_kept(table, u, v, w, told) first_unlike_product(table, other, told) taken_to_nothing(told)
        come_to(told) commuting(table) nucleus(table, side) centre(table)""",
    "powers": """power(table, row, times) turned_power(table, row, times) powers(table, row, many) least_row(table, row)
        first_nothing(table, row) comes_again(table, row) first_unlike_power(table, row) solved(table, one, other)
        turned_solved(table, one, other)""",
    "chains": """down(table, span, kind) steps_down(table, span, kind) up(table) steps_up(table) wordings(many)
        first_alive(table, span, many) span_by(table, span, wording)""",
    "forms": """form_worth(form, one, other) null_span(form, side) is_even(form) moved_forms(table)
        first_not_moved(table, form) trace_form(table) across(table, form, span)""",
    "tickets": """shown(table, rows, ticket) lines_shown(table, rows, ticket) is_closed(ticket)
        ticket_for(table, rows, wish, sided) joined(one, other, share)""",
    "texts": """show_number(number) show_row(row) show_span(span) show_table(table) show_term(term)
        show_monomial(monomial)""",
    "readings": "read_number(text) read_row(text) read_table(text) read_term(text)",
}


class Interface(unittest.TestCase):
    def test_functions(self):
        for name, text in FUNCTIONS.items():
            module = importlib.import_module(f"toldproducts.{name}")
            for listed in text.replace(", ", ",").split():
                function = getattr(module, listed.split("(")[0])
                self.assertTrue(inspect.isfunction(function), listed)
                self.assertEqual(function.__module__, module.__name__)
                self.assertEqual(f"{function.__name__}{inspect.signature(function)}".replace(", ", ","), listed)

    def test_table(self):
        kind = importlib.import_module("toldproducts.tables").Table
        self.assertEqual(str(inspect.signature(kind)), "(products)")
        self.assertEqual(str(inspect.signature(kind.__call__)), "(self, one, other)")
        for name in ("size", "products"):
            self.assertIsInstance(vars(kind)[name], property)

    def test_desk(self):
        kind = importlib.import_module("toldproducts.desks").Desk
        self.assertEqual([str(inspect.signature(kind)), kind.__module__], ["(table)", "toldproducts.desks"])
        for listed in """forks() names() put(name, row) make(name, deed) hold(name, deed) drop(name) branch(name) switch(name)
                undo() row(name) span(name) holds(term) breaks(term) lies_in(name, other) same_as(name) ticket(name, names)
                order(text) __len__()""".replace(", ", ",").split():
            name, more = listed.split("(")
            method = vars(kind)[name]
            self.assertTrue(inspect.isfunction(method), listed)
            told = str(inspect.signature(method)).replace(", ", ",")
            self.assertEqual(told, "(self," + more if more != ")" else "(self)")
        for name in ("table", "fork"):
            self.assertIsInstance(vars(kind)[name], property)
