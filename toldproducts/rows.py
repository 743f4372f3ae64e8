"""Rows of numbers and their spans."""

from toldproducts.checks import check_form, check_number, check_numbers, check_rows, check_rows_of, check_sizes
from toldproducts.elimination import form_of
from toldproducts.errors import InvalidNumber, InvalidRow, InvalidUnit, UnlikeSizes
from toldproducts.ratios import NOUGHT, ONE, lowest, multiplied
from toldproducts.solving import added, in_both, places_in, related, told, unit_row


def number(above, below):
    """Return the number of two integers, the second one not 0."""
    if below == 0:
        raise InvalidNumber(below)
    return lowest(above, below)


def unit(size, place):
    """Return the row with 1 at the place and 0 elsewhere."""
    if place < 0 or place >= size:
        raise InvalidUnit(place)
    return unit_row(size, place)


def noughts(size):
    """Return the row of noughts."""
    return [NOUGHT] * size


def sum_of(one, other):
    """Return the sum of two rows."""
    check_rows([one, other])
    if len(one) != len(other):
        raise UnlikeSizes(len(other))
    return added([ONE, ONE], [one, other], len(one))


def times(number, row):
    """Return a row so many times."""
    check_number(number)
    check_numbers(row)
    return [multiplied(number, pair) for pair in row]


def combined(numbers, rows, size):
    """Return the sum of rows, each so many times."""
    check_numbers(numbers)
    check_rows_of(rows, size)
    if len(numbers) != len(rows):
        raise InvalidRow(list(numbers))
    return added(numbers, rows, size)


def span(rows, size):
    """Return the form of the span of some rows."""
    check_rows_of(rows, size)
    return form_of(rows, size)


def is_within(span, row):
    """Return True if a row lies in a span."""
    _check_span_and_row(span, row)
    return places_in(span, row) is not None


def places(span, row):
    """Return the list of numbers with which the rows of a form add up to a row, None if it does not lie there."""
    _check_span_and_row(span, row)
    return places_in(span, row)


def told_by(row, rows):
    """Return the list of numbers with which some rows add up to a row, None if they do not.

    It has 0 for each row that is a sum of multiples of those ahead of it.
    """
    check_numbers(row)
    check_rows(rows)
    check_sizes(rows, len(row))
    return told(row, rows)


def relations(rows):
    """Return the form of all lists of numbers with which some rows add up to noughts."""
    check_rows(rows)
    if rows:
        check_sizes(rows, len(rows[0]))
    return related(rows)


def joined(one, other, size):
    """Return the form of what two spans span together."""
    _check_two_spans(one, other, size)
    return form_of([*one, *other], size)


def met(one, other, size):
    """Return the form of what two spans have in common."""
    _check_two_spans(one, other, size)
    return in_both(one, other, size)


def _check_span_and_row(span, row):
    handed = [*span, row]
    check_rows_of(handed, len(handed[0]))
    check_form(span)


def _check_two_spans(one, other, size):
    check_rows_of([*one, *other], size)
    check_form(one)
    check_form(other)
