"""Parts of a table, and what is left over a two-sided part."""

from toldproducts.checks import check_rows, check_rows_of, check_sizes, check_span, check_span_of, copied
from toldproducts.closing import (
    has_all, led_into, left_products, own_products, products_between, right_products, side_products, spans_up,
)
from toldproducts.elimination import form_of
from toldproducts.errors import InvalidSpan, NotTwoSided, NotWithin
from toldproducts.ratios import first_place
from toldproducts.solving import places_in, related, rest_over, unit_row, unit_rows
from toldproducts.tables import Table


def products_of(table, one, other):
    """Return the span of all products of a row of one span and a row of the other."""
    check_rows([*one, *other])
    check_span(one, table.size)
    check_span(other, table.size)
    return form_of(products_between(table, one, other), table.size)


def part(table, rows):
    """Return the least span with some rows that has all products of any two of its rows."""
    return grown(table, rows)[-1]


def left_part(table, rows):
    """Return the least span with some rows that has all products of any row, on the left, with its rows."""
    check_rows_of(rows, table.size)
    return spans_up(table, rows, left_products)[-1]


def right_part(table, rows):
    """Return the least span with some rows that has all products of its rows with any row, on the right."""
    check_rows_of(rows, table.size)
    return spans_up(table, rows, right_products)[-1]


def two_sided(table, rows):
    """Return the least span with some rows that has all products of its rows with any row, on both sides."""
    check_rows_of(rows, table.size)
    return spans_up(table, rows, side_products)[-1]


def grown(table, rows):
    """Return the list of the spans from that of the rows on, each the one ahead with all products of its rows."""
    check_rows_of(rows, table.size)
    return spans_up(table, rows, own_products)


def is_part(table, span):
    """Return True if a span has all products of any two of its rows."""
    check_span_of(span, table.size)
    return has_all(table, span, own_products)


def is_two_sided(table, span):
    """Return True if a span has all products of its rows with any row, on both sides."""
    check_span_of(span, table.size)
    return has_all(table, span, side_products)


def killers(table, span):
    """Return the tuple of the spans of the rows that give noughts with a span, on its left and on its right."""
    check_span_of(span, table.size)
    lefts = [products_between(table, [one], span) for one in unit_rows(table.size)]
    rights = [products_between(table, span, [one]) for one in unit_rows(table.size)]
    return (related(_one_behind_the_other(lefts)), related(_one_behind_the_other(rights)))


def held_by(table, span):
    """Return the span of the rows whose products with a span, on both sides, lie in it."""
    check_span_of(span, table.size)
    return led_into(table, span, span)


def part_table(table, span):
    """Return the table of a part, its units the rows of the form."""
    check_span_of(span, table.size)
    if not has_all(table, span, own_products):
        raise NotWithin(copied(span))
    if not span:
        raise InvalidSpan([])
    return Table([[places_in(span, table.product_of(one, other)) for other in span] for one in span])


def left_over(table, span):
    """Return the table of what is left over a two-sided part."""
    check_span_of(span, table.size)
    _check_leaves_over(table, span)
    units = [unit_row(table.size, at) for at in _places_over(table, span)]
    return Table([[_over(table, span, table.product_of(one, other)) for other in units] for one in units])


def led_down(table, span, row):
    """Return the row of what is left over a two-sided part, for a row."""
    check_rows([*span, row])
    check_sizes([row], table.size)
    check_span(span, table.size)
    _check_leaves_over(table, span)
    return _over(table, span, row)


def goes_between(table, one, other, row):
    """Return the span of all (x row) y and all x (row y), x of the one and y of the other span."""
    check_rows([*one, *other, row])
    check_sizes([row], table.size)
    check_span(one, table.size)
    check_span(other, table.size)
    firsts = products_between(table, products_between(table, one, [row]), other)
    lasts = products_between(table, one, products_between(table, [row], other))
    return form_of(firsts + lasts, table.size)


def _check_leaves_over(table, span):
    """Raise NotTwoSided or InvalidSpan if nothing is left over a span."""
    if not has_all(table, span, side_products):
        raise NotTwoSided(copied(span))
    if len(span) == table.size:
        raise InvalidSpan(copied(span))


def _one_behind_the_other(lists):
    """Return the rows of each list as one row."""
    return [[pair for row in rows for pair in row] for rows in lists]


def _places_over(table, span):
    """Return the places at which no row of a form has its first number that is not 0."""
    taken = [first_place(row) for row in span]
    return [at for at in range(table.size) if at not in taken]


def _over(table, span, row):
    rest = rest_over(span, row)
    return [rest[at] for at in _places_over(table, span)]
