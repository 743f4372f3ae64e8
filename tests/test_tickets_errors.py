import unittest

from tests.helpers import Checks, n, row, rows
from tests.test_parts_errors import BAD, WORSE, WRONG
from toldproducts.errors import InvalidNumber, InvalidRow, InvalidTicket
from toldproducts.tables import Table
from toldproducts.tickets import is_closed, joined, lines_shown, shown, ticket_for

TURN = Table([rows([1, 0], [0, 1]), rows([0, 1], [-1, 0])])
LISTS = rows([1, 2], [3, 4])
GOOD = [("take", 0)]
# Each function with a ticket at a place, and good things at the others.
WITH_TABLE = [(shown, lambda ticket: (TURN, LISTS, ticket)), (lines_shown, lambda ticket: (TURN, LISTS, ticket))]
WITHOUT = [(is_closed, lambda ticket: (ticket,)), (joined, lambda ticket: (ticket, GOOD, n(1))),
           (joined, lambda ticket: (GOOD, ticket, n(1))), (joined, lambda ticket: (ticket, [], BAD))]
# Lines that are wrong behind two others, whatever rows and units there are.
WRONG_LINES = [
    ("give", 0), ("", 0), ("Take", 0), ("take ", 0), ("product", 0, 0), ("plus", 0, 1, 2), ("none",), ("sums", 7),
    ("take", -1), ("times", 0, 2), ("times", 2, 0), ("times", -1, 0), ("times", 0, -1), ("times", 5, 5), ("times", 2, 2),
    ("sum", [(n(1), 2)]), ("sum", [(n(1), 0), (n(1), -1)]), ("sum", [(n(1), 0), (n(1), 1), (n(2), 9)]),
    ("ahead", -1, 0), ("ahead", 0, -1), ("ahead", 0, 2), ("ahead", 1, 7), ("after", -1, 0), ("after", 0, -1),
    ("after", 2, 0), ("after", 9, 1),
]
# Lines that are wrong where there are two rows and two units.
WRONG_THERE = [("take", 2), ("take", 99), ("ahead", 2, 0), ("ahead", 99, 1), ("after", 0, 2), ("after", 1, 99)]


class Rows(Checks, unittest.TestCase):
    def test_numbers(self):
        for wrong in WRONG:
            for function in (shown, lines_shown):
                for ticket in (GOOD, [], [("give", 0)]):
                    self.assert_raises(InvalidNumber, wrong, function, TURN, [row(1, 2), [n(0), wrong]], ticket)
                    self.assert_raises(InvalidNumber, wrong, function, TURN, [row(1), row(1, 2, 3), [wrong]], ticket)
            for sided in (False, True):
                self.assert_raises(InvalidNumber, wrong, ticket_for, TURN, [row(1), [wrong]], row(1), sided)
                self.assert_raises(InvalidNumber, wrong, ticket_for, TURN, LISTS, [n(1), wrong], sided)
                self.assert_raises(InvalidNumber, wrong, ticket_for, TURN, [row(1)], [wrong], sided)
        self.assert_raises(InvalidNumber, BAD, ticket_for, TURN, [[n(1), BAD]], [WORSE, WORSE], False)
        self.assert_raises(InvalidNumber, BAD, shown, TURN, [[n(1), BAD], [WORSE]], [("sum", [(WORSE, 0)])])

    def test_sizes(self):
        for wrong in ([], row(1), row(1, 2, 3)):
            for function in (shown, lines_shown):
                for ticket in (GOOD, [], [("give", 0)], [("sum", [(BAD, 0)])]):
                    self.assert_raises(InvalidRow, wrong, function, TURN, [row(1, 2), wrong, row(9)], ticket)
            for sided in (False, True):
                self.assert_raises(InvalidRow, wrong, ticket_for, TURN, [row(1, 2), wrong], row(9), sided)
                self.assert_raises(InvalidRow, wrong, ticket_for, TURN, LISTS, wrong, sided)
                self.assert_raises(InvalidRow, wrong, ticket_for, TURN, [], wrong, sided)


class Tickets(Checks, unittest.TestCase):
    def test_empty_ones(self):
        for function, handed in WITH_TABLE + WITHOUT:
            self.assert_raises(InvalidTicket, [], function, *handed([]))
        self.assert_raises(InvalidTicket, [], joined, [("give", 0)], [], BAD)
        self.assert_raises(InvalidTicket, [], joined, [("sum", [(BAD, 0)])], [], n(1))

    def test_wrong_lines(self):
        ahead = [("take", 0), ("sum", [])]
        for line in WRONG_LINES:
            for function, handed in WITH_TABLE + WITHOUT[:3]:
                self.assert_raises(InvalidTicket, line, function, *handed([*ahead, line]))
                self.assert_raises(InvalidTicket, line, function, *handed([*ahead, line, ("give", 9), ("sum", [(BAD, 0)])]))
        for line in WRONG_THERE:
            for function, handed in WITH_TABLE:
                self.assert_raises(InvalidTicket, line, function, *handed([*ahead, line]))
            self.assertEqual(joined([*ahead, line], GOOD, n(1))[2], line)

    def test_the_first_line_has_none_before_it(self):
        for line in (("times", 0, 0), ("sum", [(n(1), 0)]), ("ahead", 0, 0), ("after", 0, 0)):
            for function, handed in WITH_TABLE + WITHOUT[:3]:
                self.assert_raises(InvalidTicket, line, function, *handed([line, ("take", 0)]))

    def test_a_line_itself_is_none_before_it(self):
        for line in (("times", 0, 1), ("sum", [(n(1), 1)]), ("ahead", 0, 1), ("after", 1, 0)):
            for function, handed in WITH_TABLE + WITHOUT[:3]:
                self.assert_raises(InvalidTicket, line, function, *handed([("take", 0), line, ("take", 0)]))

    def test_no_rows(self):
        for function in (shown, lines_shown):
            self.assert_raises(InvalidTicket, ("take", 0), function, TURN, [], GOOD)
        self.assertEqual(shown(TURN, [], [("sum", [])]), row(0, 0))

    def test_numbers_of_lines(self):
        for wrong in WRONG:
            for function, handed in WITH_TABLE + WITHOUT[:3]:
                for shares in ([(wrong, 0)], [(n(1), 0), (wrong, 0)], [(wrong, 0), (WORSE, 0)]):
                    self.assert_raises(InvalidNumber, wrong, function, *handed([*GOOD, ("sum", shares), ("give", 0)]))

    def test_places_come_ahead_of_the_numbers_of_the_same_line_alone(self):
        line = ("sum", [(BAD, 0), (n(1), 1)])
        for function, handed in WITH_TABLE + WITHOUT[:3]:
            self.assert_raises(InvalidTicket, line, function, *handed([*GOOD, line]))
            self.assert_raises(InvalidNumber, BAD, function, *handed([*GOOD, ("sum", [(BAD, 0)]), ("sum", [(n(1), 5)])]))
            self.assert_raises(InvalidTicket, ("take", -3), function, *handed([*GOOD, ("take", -3), ("sum", [(BAD, 0)])]))

    def test_lists_within_a_line_are_new_in_the_error(self):
        shares = [(n(1), 4)]
        with self.assertRaises(InvalidTicket) as caught:
            shown(TURN, LISTS, [("take", 0), ("sum", shares)])
        self.assertEqual(caught.exception.value, ("sum", [(n(1), 4)]))
        self.assertIsNot(caught.exception.value[1], shares)


class Joined(Checks, unittest.TestCase):
    def test_the_one_comes_ahead_of_the_other(self):
        one, other = [*GOOD, ("give", 1)], [*GOOD, ("give", 2)]
        self.assert_raises(InvalidTicket, ("give", 1), joined, one, other, BAD)
        self.assert_raises(InvalidNumber, BAD, joined, [*GOOD, ("sum", [(BAD, 0)])], other, WORSE)
        self.assert_raises(InvalidTicket, ("give", 2), joined, GOOD, other, BAD)
        self.assert_raises(InvalidNumber, BAD, joined, GOOD, [*GOOD, ("sum", [(BAD, 0)])], WORSE)

    def test_lines_of_the_one_are_none_before_those_of_the_other(self):
        self.assert_raises(InvalidTicket, ("times", 0, 0), joined, GOOD, [("times", 0, 0)], n(1))

    def test_the_share(self):
        for wrong in WRONG:
            self.assert_raises(InvalidNumber, wrong, joined, GOOD, GOOD, wrong)

    def test_by_name(self):
        for function, handed, kind, value in [
            (shown, {"ticket": [("take", 2)], "rows": LISTS, "table": TURN}, InvalidTicket, ("take", 2)),
            (lines_shown, {"ticket": [], "rows": LISTS, "table": TURN}, InvalidTicket, []),
            (is_closed, {"ticket": []}, InvalidTicket, []),
            (ticket_for, {"sided": True, "wish": row(1), "rows": LISTS, "table": TURN}, InvalidRow, row(1)),
            (joined, {"share": BAD, "other": GOOD, "one": GOOD}, InvalidNumber, BAD),
            (joined, {"share": BAD, "other": GOOD, "one": [("take", -1)]}, InvalidTicket, ("take", -1)),
        ]:
            with self.assertRaises(kind) as caught:
                function(**handed)
            self.assertEqual(caught.exception.value, value)

    def test_an_error_changes_no_table(self):
        before = TURN.products
        for function, handed in [(shown, (TURN, LISTS, [])), (ticket_for, (TURN, LISTS, [], False))]:
            with self.assertRaises(ValueError):
                function(*handed)
        self.assertEqual(TURN.products, before)
