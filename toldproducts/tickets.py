"""Tickets: lists of lines that show how a row is made of some rows."""

from toldproducts.checks import check_number, check_numbers, check_rows_of
from toldproducts.elimination import form_of
from toldproducts.errors import InvalidTicket
from toldproducts.ratios import NOUGHT, ONE
from toldproducts.solving import added, places_in, told, unit_row


def shown(table, rows, ticket):
    """Return the row that a ticket shows."""
    return lines_shown(table, rows, ticket)[-1]


def lines_shown(table, rows, ticket):
    """Return the list of the rows of all lines of a ticket."""
    check_rows_of(rows, table.size)
    _check_standing(ticket)
    _check_lines(ticket, len(rows), table.size)
    found = []
    for line in ticket:
        found.append(_row_of(table, rows, found, line))
    return found


def is_closed(ticket):
    """Return True if no line of a ticket takes a unit."""
    _check_standing(ticket)
    _check_lines(ticket, None, None)
    return not [line for line in ticket if line[0] in ("ahead", "after")]


def ticket_for(table, rows, wish, sided):
    """Return a ticket that shows a wish, a closed one unless it may be sided, None if there is none."""
    check_rows_of([*rows, wish], table.size)
    lines, found = _lines_of_part(table, rows, sided)
    numbers = told(wish, found)
    if numbers is None:
        return None
    return [*lines, ("sum", [(number, at) for at, number in enumerate(numbers) if number != NOUGHT])]


def joined(one, other, share):
    """Return the ticket of the lines of two tickets and of their sum, the other one so many times."""
    _check_standing(one)
    _check_standing(other)
    _check_lines(one, None, None)
    _check_lines(other, None, None)
    check_number(share)
    lines = [_moved(line, 0) for line in one] + [_moved(line, len(one)) for line in other]
    return [*lines, ("sum", [(ONE, len(one) - 1), (share, len(lines) - 1)])]


def _check_standing(ticket):
    if not ticket:
        raise InvalidTicket([])


def _check_lines(ticket, many, size):
    """Raise InvalidTicket or InvalidNumber for the first wrong line of a ticket.

    There are so many rows and units of the size; None where they are not looked at.
    """
    for at, line in enumerate(ticket):
        if not _is_right(line, at, many, size):
            raise InvalidTicket(_moved(line, 0))
        if line[0] == "sum":
            check_numbers([number for number, _ in line[1]])


def _is_right(line, at, many, size):
    """Return True if the rows, the units and the lines before it are there that a line takes."""
    if line[0] == "take":
        return _is_place(line[1], many)
    if line[0] == "times":
        return _is_place(line[1], at) and _is_place(line[2], at)
    if line[0] == "sum":
        return all([_is_place(place, at) for _, place in line[1]])
    if line[0] == "ahead":
        return _is_place(line[1], size) and _is_place(line[2], at)
    return line[0] == "after" and _is_place(line[1], at) and _is_place(line[2], size)


def _is_place(place, many):
    return place >= 0 and (many is None or place < many)


def _moved(line, by):
    """Return a line anew, with its places of lines moved on."""
    if line[0] == "times":
        return ("times", line[1] + by, line[2] + by)
    if line[0] == "sum":
        return ("sum", [(number, at + by) for number, at in line[1]])
    if line[0] == "ahead":
        return ("ahead", line[1], line[2] + by)
    if line[0] == "after":
        return ("after", line[1] + by, line[2])
    return line


def _row_of(table, rows, found, line):
    """Return the row of a line, with the rows of the lines before it."""
    if line[0] == "take":
        return list(rows[line[1]])
    if line[0] == "times":
        return table.product_of(found[line[1]], found[line[2]])
    if line[0] == "sum":
        return added([number for number, _ in line[1]], [found[at] for _, at in line[1]], table.size)
    if line[0] == "ahead":
        return table.product_of(unit_row(table.size, line[1]), found[line[2]])
    return table.product_of(found[line[1]], unit_row(table.size, line[2]))


def _lines_of_part(table, rows, sided):
    """Return the tuple (lines, their rows) of lines that span the least part, or the least two-sided one.

    Only what is no sum of the rows before it is taken: so there are at most as many lines as units.
    """
    lines, found, form = [], [], []
    at, nexts = 0, [("take", place) for place in range(len(rows))]
    while True:
        for line in nexts:
            row = _row_of(table, rows, found, line)
            if places_in(form, row) is None:
                lines.append(line)
                found.append(row)
                form = form_of([*form, row], table.size)
        if at == len(lines) or len(lines) == table.size:
            return (lines, found)
        nexts = _products_with(at, table.size, sided)
        at = at + 1


def _products_with(at, size, sided):
    """Return the lines of the products of a line with all units, or with itself and each line before it."""
    if sided:
        return [line for e in range(size) for line in (("ahead", e, at), ("after", at, e))]
    return [line for place in range(at + 1) for line in (("times", place, at), ("times", at, place))]
