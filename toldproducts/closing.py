"""Spans that grow by products until they hold them all; what is handed in is known to be right."""

from toldproducts.elimination import form_of
from toldproducts.solving import places_in, related, rest_over, unit_rows


def products_between(table, ones, others):
    """Return the list of the products of each row of the one list with each of the other."""
    return [table.product_of(one, other) for one in ones for other in others]


def own_products(table, span):
    """Return the products of any two rows of a span."""
    return products_between(table, span, span)


def left_products(table, span):
    """Return the products of all units, on the left, with the rows of a span."""
    return products_between(table, unit_rows(table.size), span)


def right_products(table, span):
    """Return the products of the rows of a span with all units, on the right."""
    return products_between(table, span, unit_rows(table.size))


def side_products(table, span):
    """Return the products of the rows of a span with all units, on both sides."""
    return left_products(table, span) + right_products(table, span)


def spans_up(table, rows, products):
    """Return the list of the spans from that of the rows on, each the one ahead with its products, while they grow."""
    spans = [form_of(rows, table.size)]
    while True:
        wider = form_of(spans[-1] + products(table, spans[-1]), table.size)
        if len(wider) == len(spans[-1]):
            return spans
        spans.append(wider)


def has_all(table, span, products):
    """Return True if all products of a span lie in it."""
    return all([places_in(span, row) is not None for row in products(table, span)])


def led_into(table, others, span):
    """Return the span of the rows whose products with each of some others, on both sides, lie in a span."""
    rests = []
    for one in unit_rows(table.size):
        both = products_between(table, [one], others) + products_between(table, others, [one])
        rests.append([pair for row in both for pair in rest_over(span, row)])
    return related(rests)
