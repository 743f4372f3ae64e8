"""What is handed in, looked at before it is used."""

from toldproducts.errors import InvalidMap, InvalidNumber, InvalidRow, InvalidSpan
from toldproducts.ratios import is_lowest
from toldproducts.solving import is_form


def copied(rows):
    """Return a list of rows anew, with new rows."""
    return [list(row) for row in rows]


def check_number(pair):
    """Raise InvalidNumber if a tuple is no number."""
    if not is_lowest(pair):
        raise InvalidNumber(pair)


def check_numbers(row):
    """Raise InvalidNumber for the first of a row that is no number."""
    for pair in row:
        check_number(pair)


def check_rows(rows):
    """Raise InvalidNumber for the first of some rows that is no number."""
    for row in rows:
        check_numbers(row)


def check_sizes(rows, size):
    """Raise InvalidRow for the first row that has not the size."""
    for row in rows:
        if len(row) != size:
            raise InvalidRow(list(row))


def check_rows_of(rows, size):
    """Raise InvalidNumber for the first that is none, then InvalidRow for the first row that has not the size."""
    check_rows(rows)
    check_sizes(rows, size)


def check_form(rows):
    """Raise InvalidSpan if rows of one size are no form of a span."""
    if not is_form(rows):
        raise InvalidSpan(copied(rows))


def check_span(rows, size):
    """Raise InvalidSpan if rows are no form of a span of rows of the size."""
    if not has_sizes(rows, size) or not is_form(rows):
        raise InvalidSpan(copied(rows))


def check_span_of(rows, size):
    """Raise InvalidNumber for the first that is none, then InvalidSpan if rows are no form of rows of the size."""
    check_rows(rows)
    check_span(rows, size)


def check_map(rows, many, size):
    """Raise InvalidMap if rows are not so many rows of the size."""
    if len(rows) != many or not has_sizes(rows, size):
        raise InvalidMap(copied(rows))


def has_sizes(rows, size):
    """Return True if all rows have the size."""
    return all([len(row) == size for row in rows])


def is_cube(products):
    """Return True if products are n lists of n rows of n numbers, n at least 1."""
    size = len(products)
    return size >= 1 and all([len(rows) == size and has_sizes(rows, size) for rows in products])
