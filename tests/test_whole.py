"""What one module tells is handed on to the others, whatever the size of its numbers."""

import unittest

from tests.helpers import (
    Checks, any_products, any_row, any_rows, n, plain_form, plain_product, plain_sum, row, rows, some,
)
from tests.plain import EITHER, all_products, is_nothing, lies_in, plain_beside, plain_closed, plain_kernel, plain_units
from tests.test_forms import plain_worth as plain_form_worth
from tests.test_parts import CLIMB, CROSS, SECOND, STILL, TURN, UPPER
from tests.test_texts import plain_row
from tests.test_tickets import plain_lines
from toldproducts.chains import down, first_alive, span_by, steps_down, steps_up, up, wordings
from toldproducts.desks import Desk
from toldproducts.forms import across, first_not_moved, form_worth, moved_forms, null_span, trace_form
from toldproducts.keepers import (
    along, behind, bracket, centre, come_to, commuting, first_not_kept, keepers, nucleus, taken_to_nothing,
)
from toldproducts.parts import (
    held_by, is_part, is_two_sided, killers, led_down, left_over, part, part_table, products_of, two_sided,
)
from toldproducts.powers import comes_again, first_nothing, least_row, power, powers, solved, turned_power, turned_solved
from toldproducts.readings import read_row, read_table, read_term
from toldproducts.rows import combined, joined, met, places, relations, span, sum_of, told_by
from toldproducts.sayings import first_breaking, holds, monomials, sayings_of, worth
from toldproducts.tables import Table, beside, changed, crossed, left_map, left_ones, ones, opposite, over, right_map
from toldproducts.texts import show_monomial, show_row, show_table, show_term
from toldproducts.tickets import is_closed, joined as joined_tickets, shown, ticket_for

ONE, NOUGHT = (1, 1), (0, 1)


def great_tables(seed):
    """Tables with numbers of many digits that the program told, over drawn bases; none of more than four units."""
    source = some(seed)
    tables = [over(Table(products), any_rows(source, len(products), len(products), 9999, 9999))
              for products in (TURN, SECOND, STILL, CROSS, UPPER, plain_beside(SECOND, STILL), plain_beside(STILL, TURN))]
    return tables + [changed(tables[4], left_map(tables[4], any_row(source, 3, 99)), right_map(tables[4], any_row(source, 3)))]


def longest(lists):
    return max([len(str(part)) for entries in lists for number in entries for part in number], default=0)


class HandedOn(Checks, unittest.TestCase):
    def test_the_numbers_are_great(self):
        self.assertGreater(max(longest(lists) for table in great_tables(801) for lists in table.products), 40)

    def test_powers_go_to_rows_parts_and_tickets(self):
        source = some(802)
        for table in great_tables(803):
            products, size = table.products, table.size
            told = powers(table, any_row(source, size, 9999, 9999), 8)
            self.assertEqual(span(told, size), plain_form(told))
            numbers = told_by(told[7], told[:size])
            if numbers is not None:
                self.assertEqual(combined(numbers, told[:size], size), told[7])
            self.assertEqual(relations(told), plain_kernel(told))
            form = part(table, told)
            self.assertEqual(form, plain_closed(products, told, "own")[-1])
            self.assertEqual(plain_sum(places(form, told[6]), form, size), told[6])
            for wish in (told[7], form[0], table(told[1], told[2]), any_row(source, size)):
                ticket = ticket_for(table, told[:3], wish, False)
                inside = lies_in(plain_closed(products, told[:3], "own")[-1], wish)
                self.assertEqual(ticket is not None, inside)
                if ticket is not None:
                    self.assertEqual(plain_lines(products, told[:3], ticket)[-1], wish)
                    twice = joined_tickets(ticket, ticket, n(-1))
                    self.assertTrue(is_nothing(shown(table, told[:3], twice)))
                    self.assertIs(is_closed(twice), True)

    def test_spans_go_to_chains_and_forms(self):
        source = some(804)
        for table in great_tables(805):
            products, units = table.products, plain_units(table.size)
            chain = up(table)
            self.assertEqual(steps_up(table), steps_down(table, units, "both"))
            forms = [chain[-1], commuting(table), centre(table), nucleus(table, 0), *killers(table, units)]
            forms.append(two_sided(table, [any_row(source, table.size)]))
            trace = trace_form(table)
            for form in forms:
                both = products_of(table, form, units)
                self.assertEqual(both, plain_form(all_products(products, form, units)) if form else [])
                self.assertEqual(span_by(table, form, ("x", "x")), products_of(table, form, form))
                for entries in across(table, trace, form):
                    self.assertEqual([plain_form_worth(trace, one, entries) for one in form], [NOUGHT] * len(form))
                self.assertEqual(met(form, joined(form, both, table.size), table.size), form)
                if is_part(table, form):
                    self.assertEqual(down(table, form, "left")[0], form)
                    self.assertEqual(met(held_by(table, form), form, table.size), form)
                alive = first_alive(table, form, 3)
                self.assertEqual(alive, next((one for one in wordings(3) if span_by(table, form, one)), None))

    def test_maps_and_forms(self):
        source = some(806)
        for table in great_tables(807):
            size = table.size
            space = keepers(table, ONE, ONE, ONE)
            for one in space[:3]:
                for other in space[:3]:
                    self.assertIs(first_not_kept(table, ONE, ONE, ONE, bracket(one, other)), None)
                entries = power(table, any_row(source, size, 99), 5)
                self.assertEqual(along(behind(one, one), entries), along(one, along(one, entries)))
                self.assertEqual(len(come_to(one)) + len(taken_to_nothing(one)), size)
            for form in moved_forms(table):
                self.assertIs(first_not_moved(table, form), None)
                one, other = power(table, any_row(source, size, 9), 7), turned_power(table, any_row(source, size, 9), 6)
                self.assertEqual(form_worth(form, table(one, other), one), form_worth(form, one, table(other, one)))
                for entries in null_span(form, 0):
                    self.assertEqual(form_worth(form, entries, other), NOUGHT)

    def test_tables_that_are_made_of_parts(self):
        source = some(808)
        for table in great_tables(809):
            killing = killers(table, plain_units(table.size))[0]
            form = two_sided(table, killing or [any_row(source, table.size)])
            if form:
                lesser = part_table(table, form)
                one, other = any_row(source, len(form), 99), any_row(source, len(form), 99)
                lifted = plain_product(table.products, plain_sum(one, form, table.size), plain_sum(other, form, table.size))
                self.assertEqual(plain_sum(lesser(one, other), form, table.size), lifted)
                self.assertEqual(len(least_row(lesser, one)) <= lesser.size, True)
            if is_two_sided(table, form) and len(form) < table.size:
                rest = left_over(table, form)
                one = power(table, any_row(source, table.size, 99), 9)
                self.assertEqual(powers(rest, led_down(table, form, one), 4),
                                 [led_down(table, form, entries) for entries in powers(table, one, 4)])
                for numbers in sayings_of(table, 3):
                    self.assertTrue(lies_in(sayings_of(rest, 3), numbers))
            wide = beside(table, Table([[row(2)]]))
            self.assertEqual(ones(wide) is None, ones(table) is None)
            self.assertEqual(crossed(Table([[row(1)]]), table), table)

    def test_solutions(self):
        source = some(810)
        for table in great_tables(811):
            one, wish = any_row(source, table.size, 99), power(table, any_row(source, table.size, 99), 12)
            found, turned = solved(table, one, table(one, wish)), turned_solved(table, one, table(wish, one))
            self.assertEqual(table(one, found[0]), table(one, wish))
            self.assertEqual(table(turned[0], one), table(wish, one))
            self.assertEqual([is_nothing(table(one, entries)) for entries in found[1]], [True] * len(found[1]))
            self.assertEqual(turned_solved(opposite(table), one, table(one, wish)), found)
            if left_ones(table) is not None:
                first, form = left_ones(table)
                self.assertEqual(table(first, wish), wish)
                self.assertEqual(comes_again(table, first), (1, 1))
                for entries in form:
                    self.assertEqual(table(sum_of(first, entries), wish), wish)
            for entries in up(table)[-1]:
                self.assertEqual(first_nothing(table, entries) is None, not is_nothing(powers(table, entries, 9)[-1]))

    def test_what_breaks(self):
        for table in great_tables(812):
            found = first_breaking(table, EITHER)
            self.assertEqual(found is None, holds(table, EITHER))
            if found is not None:
                told = worth(table, EITHER, found)
                self.assertFalse(is_nothing(told))
                self.assertEqual(first_nothing(table, found[0]), first_nothing(table, power(table, found[0], 1)))
                self.assertIsNot(ticket_for(table, found, told, False), None)

    def test_texts(self):
        for table in great_tables(813):
            text = show_table(table)
            self.assertEqual(text, " | ".join(" ; ".join(map(plain_row, lists)) for lists in table.products))
        for products in (TURN, SECOND, STILL, CROSS, UPPER, CLIMB):
            table = Table(products)
            self.assertEqual(read_table(show_table(table)), table)
            unit = left_ones(table)
            if unit is not None:
                self.assertEqual(read_row(show_row(unit[0])), unit[0])
            self.assertEqual(read_term(show_term(EITHER)), EITHER)
            self.assertEqual(holds(read_table(show_table(table)), read_term(show_term(EITHER))), holds(table, EITHER))
        self.assertEqual([show_monomial(one) for one in monomials(3)], sorted(show_monomial(one) for one in monomials(3)))


class Desks(Checks, unittest.TestCase):
    def test_a_desk_over_great_numbers(self):
        source = some(821)
        for table in great_tables(822):
            desk, size = Desk(table), table.size
            entries = power(table, any_row(source, size, 9999, 9999), 7)
            desk.put("a", entries)
            desk.make("b", ("power", "a", 3))
            desk.make("c", ("times", "b", "a"))
            desk.hold("p", ("part", ["a"]))
            desk.hold("s", ("sided", ["a"]))
            desk.hold("q", ("by", "p", "s"))
            self.assertEqual([desk.row("b"), desk.row("c")], [power(table, entries, 3), table(power(table, entries, 3), entries)])
            self.assertEqual([desk.span("p"), desk.span("s")], [part(table, [entries]), two_sided(table, [entries])])
            self.assertEqual([desk.lies_in("c", "p"), desk.lies_in("p", "s"), desk.lies_in("q", "s")], [True] * 3)
            ticket = desk.ticket("c", ["a"])
            self.assertEqual(shown(table, [entries], ticket), desk.row("c"))
            self.assertEqual(desk.order("show b"), show_row(power(table, entries, 3)))
            self.assertEqual(desk.breaks(EITHER), first_breaking(table, EITHER))
            desk.put("d", desk.row("c"))
            self.assertEqual(desk.same_as("c"), [name for name in "abd" if desk.row(name) == desk.row("c")])

    def test_a_desk_over_a_table_that_was_read(self):
        desk = Desk(read_table("1 0 ; 0 1 | 0 1 ; -1 0"))
        desk.order("put i 0 1")
        desk.order("power j i 4")
        self.assertEqual([desk.order("show j"), desk.row("j"), comes_again(desk.table, desk.row("i"))], ["1 0", row(1, 0), (1, 4)])
        self.assertEqual(desk.table, Table(TURN))

    def test_errors_change_no_table(self):
        table = Table(any_products(some(823), 3))
        before = table.products
        for function, handed in [(power, (table, row(1), 2)), (down, (table, rows([2, 0, 0]), "left")), (across, (table, [], [])),
                                 (ticket_for, (table, [], row(1), True)), (shown, (table, [], []))]:
            with self.assertRaises(ValueError):
                function(*handed)
        self.assertEqual(table.products, before)
