import unittest

from tests.helpers import Checks, any_products, any_row, any_rows, n, plain_product, plain_sum, row, rows, some
from tests.plain import lies_in, plain_closed, plain_units
from tests.test_parts import CLIMB, CROSS, SECOND, STILL, TURN, UPPER, drawn_sides, drawn_tables
from toldproducts.parts import part, two_sided
from toldproducts.powers import power, powers
from toldproducts.tables import Table, over
from toldproducts.tickets import is_closed, joined, lines_shown, shown, ticket_for

GREAT = 10 ** 400 + 69


def plain_lines(products, lists, ticket):
    """The rows of all lines, by the words of the document."""
    units, found = plain_units(len(products)), []
    for line in ticket:
        if line[0] == "take":
            found.append(lists[line[1]])
        elif line[0] == "times":
            found.append(plain_product(products, found[line[1]], found[line[2]]))
        elif line[0] == "ahead":
            found.append(plain_product(products, units[line[1]], found[line[2]]))
        elif line[0] == "after":
            found.append(plain_product(products, found[line[1]], units[line[2]]))
        else:
            numbers, places = [share[0] for share in line[1]], [share[1] for share in line[1]]
            found.append(plain_sum(numbers, [found[at] for at in places], len(products)))
    return found


def any_ticket(source, many, size, lines):
    """A drawn ticket whose rows do not grow too long: each line is multiplied at most once."""
    ticket, simple = [], []
    while len(ticket) < lines:
        at = len(ticket)
        kind = source.choice(["take", "times", "sum", "ahead", "after"])
        if kind == "take" and many:
            simple.append(at)
            ticket.append(("take", source.randrange(many)))
        elif kind == "times" and simple:
            ticket.append(("times", source.choice(simple), source.choice(simple)))
        elif kind == "ahead" and at:
            ticket.append(("ahead", source.randrange(size), source.randrange(at)))
        elif kind == "after" and at:
            ticket.append(("after", source.randrange(at), source.randrange(size)))
        elif kind == "sum":
            shares = [(n(source.randint(-9, 9), source.randint(1, 9)), source.randrange(at))
                      for _ in range(source.randint(0, 3))] if at else []
            ticket.append(("sum", shares))
    return ticket


def copy_of(ticket):
    return [tuple(list(part) if isinstance(part, list) else part for part in line) for line in ticket]


class Shown(Checks, unittest.TestCase):
    def check(self, products, lists, ticket):
        expected = plain_lines(products, lists, ticket)
        for function, answer in [(shown, expected[-1]), (lines_shown, expected)]:
            handed = {"table": Table(products), "rows": [list(one) for one in lists], "ticket": copy_of(ticket)}
            self.assertEqual(self.check_call(function, handed), answer)
        return expected[-1]

    def test_ordinary(self):
        self.assertEqual(self.check(TURN, rows([0, 1]), [("take", 0), ("times", 0, 0)]), row(-1, 0))
        self.assertEqual(self.check(TURN, rows([0, 1]), [("take", 0), ("ahead", 1, 0), ("sum", [(n(1, 2), 0), (n(3), 1)])]),
                         row(-3, "1/2"))
        self.assertEqual(self.check(SECOND, rows([1, 2], [3, 4]), [("take", 0), ("take", 1), ("times", 0, 1)]), row(9, 12))
        self.assertEqual(self.check(SECOND, rows([1, 2], [3, 4]), [("take", 0), ("take", 1), ("times", 1, 0)]), row(7, 14))

    def test_each_kind_of_line(self):
        # In SECOND a product is so many times the row on the right.
        lists = rows([5, 7], [0, 2])
        self.assertEqual(self.check(SECOND, lists, [("take", 1)]), row(0, 2))
        self.assertEqual(self.check(SECOND, lists, [("take", 0), ("ahead", 1, 0)]), row(5, 7))
        self.assertEqual(self.check(SECOND, lists, [("take", 0), ("after", 0, 1)]), row(0, 12))
        self.assertEqual(self.check(SECOND, lists, [("sum", [])]), row(0, 0))
        self.assertEqual(self.check(SECOND, lists, [("take", 0), ("take", 1), ("sum", [(n(2), 1), (n(-1), 0), (n(3), 1)])]),
                         row(-5, 3))
        # The last line is shown, whatever stands before it.
        self.assertEqual(self.check(SECOND, lists, [("take", 0), ("sum", []), ("take", 0)]), row(5, 7))

    def test_no_rows_and_six(self):
        self.assertEqual(self.check(TURN, [], [("sum", [])]), row(0, 0))
        self.assertEqual(self.check(TURN, [], [("sum", []), ("ahead", 0, 0), ("after", 0, 1), ("times", 1, 2)]), row(0, 0))
        lists = any_rows(some(501), 6, 6, 9999, 9999)
        for at in range(6):
            self.assertEqual(self.check(CLIMB, lists, [("take", at)]), lists[at])

    def test_sixty_lines_and_twelve_shares(self):
        shares = [(n(at, 7), at % 3) for at in range(12)]
        ticket = [("take", 0), ("take", 1), ("times", 0, 1), ("sum", shares)]
        self.check(any_products(some(502), 3), any_rows(some(503), 2, 3), ticket)
        climbing = [("take", 0)] + [("after", at, 0) for at in range(59)]
        self.check(any_products(some(504), 4, 2), any_rows(some(505), 1, 4), climbing)
        sums = [("take", 0), ("take", 0)] + [("sum", [(n(1), at), (n(1), at + 1)]) for at in range(58)]
        self.assertEqual(self.check(TURN, rows([1, 0]), sums), row(1548008755920, 0))
        self.check(TURN, rows([0, 1]), [("take", 0)] + [("times", at, at) for at in range(59)])

    def test_drawn(self):
        source = some(506)
        for products in drawn_tables(507):
            size = len(products)
            for many in (0, 1, 6):
                lists = any_rows(source, many, size)
                self.check(products, lists, any_ticket(source, many, size, source.randint(1, 9)))

    def test_lines_stand_apart(self):
        table = Table(TURN)
        found = lines_shown(table, rows([1, 2]), [("take", 0), ("take", 0), ("sum", [(n(1), 0)])])
        found[0].clear()
        self.assertEqual(found[1:], rows([1, 2], [1, 2]))

    def test_great_numbers(self):
        self.check(TURN, [[n(GREAT), n(1, GREAT)]], [("take", 0), ("times", 0, 0), ("sum", [(n(2), 1)])])


class Closed(Checks, unittest.TestCase):
    def test_ordinary(self):
        for ticket, expected in [
            ([("take", 0)], True), ([("take", 0), ("times", 0, 0), ("sum", [(n(1), 1)])], True),
            ([("take", 0), ("ahead", 0, 0)], False), ([("take", 0), ("after", 0, 0)], False), ([("sum", [])], True),
            ([("take", 0), ("ahead", 0, 0), ("take", 0)], False), ([("sum", []), ("after", 0, 3), ("sum", [])], False),
        ]:
            self.assertIs(self.check_call(is_closed, {"ticket": ticket}), expected)

    def test_rows_and_units_are_not_looked_at(self):
        self.assertIs(is_closed([("take", 99)]), True)
        self.assertIs(is_closed([("take", 7), ("ahead", 99, 0)]), False)
        self.assertIs(is_closed([("take", 7), ("after", 0, 99)]), False)

    def test_sixty_lines(self):
        ticket = [("take", 0)] + [("times", at, at) for at in range(59)]
        self.assertIs(is_closed(ticket), True)
        self.assertIs(is_closed(ticket[:59] + [("ahead", 0, 58)]), False)


class Joined(Checks, unittest.TestCase):
    def check(self, one, other, share):
        told = self.check_call(joined, {"one": copy_of(one), "other": copy_of(other), "share": share})
        self.assertEqual(len(told), len(one) + len(other) + 1)
        self.assertEqual(told[:len(one)], one)
        self.assertEqual(told[-1], ("sum", [((1, 1), len(one) - 1), (share, len(told) - 2)]))
        return told

    def test_each_kind_of_line_is_moved_on(self):
        other = [("take", 4), ("times", 0, 0), ("sum", [(n(2, 3), 1), (n(5), 0)]), ("ahead", 2, 1), ("after", 3, 1), ("sum", [])]
        self.assertEqual(self.check([("take", 9), ("ahead", 5, 0)], other, n(-1, 2))[2:], [
            ("take", 4), ("times", 2, 2), ("sum", [(n(2, 3), 3), (n(5), 2)]), ("ahead", 2, 3), ("after", 5, 1), ("sum", []),
            ("sum", [(n(1), 1), (n(-1, 2), 7)])])

    def test_it_shows_the_sum(self):
        source = some(511)
        for products in drawn_tables(512):
            size = len(products)
            lists = any_rows(source, 3, size)
            one, other = (any_ticket(source, 3, size, source.randint(1, 6)) for _ in range(2))
            share = n(source.randint(-9, 9), source.randint(1, 9))
            told = self.check(one, other, share)
            ends = [plain_lines(products, lists, ticket)[-1] for ticket in (one, other)]
            self.assertEqual(shown(Table(products), lists, told), plain_sum([n(1), share], ends, size))
            self.assertIs(is_closed(told), is_closed(one) and is_closed(other))

    def test_what_it_told_may_be_handed_in_again(self):
        ticket = [("take", 0)]
        for _ in range(5):
            ticket = joined(ticket, ticket, n(2))
        self.assertEqual(len(ticket), 63)
        self.assertEqual(shown(Table(TURN), rows([1, 1]), ticket), row(243, 243))
        one = joined([("take", 0)] * 29, [("take", 0)] * 30, n(0))
        self.assertEqual([len(one), shown(Table(TURN), rows([1, 1]), one)], [60, row(1, 1)])

    def test_a_ticket_with_itself(self):
        ticket = [("take", 0), ("sum", [(n(1), 0)])]
        told = joined(ticket, ticket, n(1))
        told[1][1].clear()
        self.assertEqual([ticket[1], told[3]], [("sum", [(n(1), 0)]), ("sum", [(n(1), 2)])])


class TicketFor(Checks, unittest.TestCase):
    def check(self, products, lists, wish, sided):
        """A ticket is told just if the wish lies in the least part, or the least two-sided part."""
        size = len(products)
        form = plain_closed(products, lists, "both" if sided else "own")[-1] if lists else []
        handed = {"table": Table(products), "rows": [list(one) for one in lists], "wish": list(wish), "sided": sided}
        ticket = self.check_call(ticket_for, handed)
        if not lies_in(form, wish):
            self.assertIs(ticket, None)
            return None
        self.assertIn(len(ticket), range(1, 61))
        self.assertEqual(plain_lines(products, lists, ticket)[-1], wish)
        self.assertEqual(shown(Table(products), lists, ticket), wish)
        if not sided:
            self.assertIs(is_closed(ticket), True)
        for line in ticket:
            self.assertIn(line[0], ("take", "times", "sum", "ahead", "after"))
            self.assertTrue(line[0] != "sum" or len(line[1]) <= 12)
        self.assertEqual(len(wish), size)
        return ticket

    def test_ordinary(self):
        self.assertIs(self.check(SECOND, rows([0, 1]), row(1, 0), False), None)
        self.assertIsNot(self.check(TURN, rows([0, 1]), row(5, 0), False), None)
        self.assertIsNot(self.check(SECOND, rows([0, 1]), row(1, 0), True), None)
        self.assertIs(self.check(STILL, rows([0, 1]), row(1, 0), True), None)
        self.assertIsNot(self.check(STILL, rows([1, 0]), row(3, "1/7"), False), None)

    def test_the_row_of_noughts(self):
        for products in (TURN, STILL, CLIMB, [[row(3)]]):
            naught = row(*[0] * len(products))
            for lists in ([], [naught], plain_units(len(products))):
                for sided in (False, True):
                    self.assertIsNot(self.check(products, lists, naught, sided), None)
            for sided in (False, True):
                self.assertIs(self.check(products, [], plain_units(len(products))[0], sided), None)
                self.assertIs(self.check(products, [naught], plain_units(len(products))[0], sided), None)

    def test_many_steps(self):
        first, last = plain_units(6)[0], plain_units(6)[5]
        self.assertIsNot(self.check(CLIMB, [first], last, False), None)
        self.assertIs(self.check(CLIMB, [last], first, False), None)
        self.assertIsNot(self.check(CROSS, rows([1, 0, 0], [0, 1, 0]), row(2, 3, 4), False), None)
        self.assertIs(self.check(CROSS, rows([1, 0, 0]), row(0, 1, 0), False), None)
        self.assertIsNot(self.check(CROSS, rows([1, 0, 0]), row(0, 1, 0), True), None)
        # Reached on one side alone: on the left by SECOND, on the right by its opposite.
        turned = [[lists[at] for lists in SECOND] for at in range(2)]
        for products in (SECOND, turned):
            self.assertIsNot(self.check(products, rows([0, 1]), row(1, 0), True), None)
            self.assertIs(self.check(products, rows([0, 1]), row(1, 0), False), None)

    def test_drawn(self):
        source, found = some(521), set()
        for products in drawn_tables(522):
            size = len(products)
            for many in (0, 1, 2, 6):
                lists = any_rows(source, many, size, 1)
                for sided in (False, True):
                    form = plain_closed(products, lists, "both" if sided else "own")[-1] if lists else []
                    inside = plain_sum(any_row(source, len(form), 9, 9), form, size)
                    self.assertIsNot(self.check(products, lists, inside, sided), None)
                    ticket = self.check(products, lists, any_row(source, size, 3), sided)
                    found.add((sided, ticket is None))
        self.assertEqual(len(found), 4)

    def test_parts_that_are_not_all(self):
        source = some(523)
        for products, form in drawn_sides(524):
            size = len(products)
            lists = [plain_sum(any_row(source, len(form), 3), form, size) for _ in range(2)]
            for sided in (False, True):
                for wish in [form[0], *plain_units(size)]:
                    self.check(products, lists, wish, sided)

    def test_great_numbers(self):
        source = some(525)
        table = over(Table(UPPER), any_rows(source, 3, 3, 9999, 9999))
        great = power(table, any_row(source, 3, 9999, 9999), 12)
        for wish in [power(table, great, 3), part(table, [great])[-1], two_sided(table, [great])[0], row(1, 2, 3)]:
            for sided in (False, True):
                self.check(table.products, [great], wish, sided)
        told = powers(table, great, 6)
        self.check(table.products, told, any_row(source, 3), False)
