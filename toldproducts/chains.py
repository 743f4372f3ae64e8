"""Chains of spans that come down by products, or up by what they kill, and products in every bracketing."""

from toldproducts.brackets import bracketed
from toldproducts.checks import check_span_of, copied
from toldproducts.closing import has_all, led_into, own_products, products_between
from toldproducts.elimination import form_of
from toldproducts.errors import InvalidKind, InvalidNumber, InvalidTerm, NotWithin
from toldproducts.solving import unit_rows

KINDS = ("square", "right", "left", "both")
# So many places a wording has at most.
MOST = 6


def down(table, span, kind):
    """Return the list of spans from a part on, each the products of a kind of the one ahead, while they change."""
    check_span_of(span, table.size)
    if not has_all(table, span, own_products):
        raise NotWithin(copied(span))
    if kind not in KINDS:
        raise InvalidKind(kind)
    spans = [copied(span)]
    while True:
        # Each span lies in the one before it, so it is like that one if it has as many rows.
        lesser = form_of(_products_down(table, spans[-1], span, kind), table.size)
        if len(lesser) == len(spans[-1]):
            return spans
        spans.append(lesser)


def steps_down(table, span, kind):
    """Return how many steps lead from a part to the span of nothing, None if it is not come to."""
    spans = down(table, span, kind)
    return None if spans[-1] else len(spans) - 1


def up(table):
    """Return the list of spans, from nothing on, each of the rows whose products with all rows lie in the one ahead."""
    units, spans = unit_rows(table.size), [[]]
    while True:
        wider = led_into(table, units, spans[-1])
        if len(wider) == len(spans[-1]):
            return spans
        spans.append(wider)


def steps_up(table):
    """Return how many steps lead up to all rows, None if they are not come to."""
    spans = up(table)
    return len(spans) - 1 if len(spans[-1]) == table.size else None


def wordings(many):
    """Return the list of all wordings with so many x."""
    _check_many(many)
    return bracketed("x" * many)


def first_alive(table, span, many):
    """Return the first wording with so many x by which some product of rows of a span is not nothing, or None."""
    check_span_of(span, table.size)
    _check_many(many)
    for wording, reached in _spans_by_all(table, span, many):
        if reached:
            return wording
    return None


def span_by(table, span, wording):
    """Return the span of all products of rows of a span that are bracketed as a wording."""
    check_span_of(span, table.size)
    if _count(wording) > MOST or not _has_x_alone(wording):
        raise InvalidTerm(wording)
    return _span_by(table, copied(span), wording)


def _check_many(many):
    if many < 1 or many > MOST:
        raise InvalidNumber(many)


def _products_down(table, span, first, kind):
    if kind == "square":
        return own_products(table, span)
    if kind == "right":
        return products_between(table, span, first)
    if kind == "left":
        return products_between(table, first, span)
    return products_between(table, span, first) + products_between(table, first, span)


def _spans_by_all(table, span, many):
    """Return the list of the tuples (wording, its span) of all wordings with so many x, in their order."""
    found = [[("x", span)]]
    for count in range(2, many + 1):
        longer = [
            ((left, right), _span_between(table, one, other))
            for half in range(1, count)
            for left, one in found[half - 1]
            for right, other in found[count - half - 1]
        ]
        found.append(longer)
    return found[many - 1]


def _span_by(table, span, wording):
    if isinstance(wording, str):
        return span
    one, other = wording
    return _span_between(table, _span_by(table, span, one), _span_by(table, span, other))


def _span_between(table, one, other):
    return form_of(products_between(table, one, other), table.size)


def _count(wording):
    """Return at how many places of a wording letters stand."""
    return 1 if isinstance(wording, str) else _count(wording[0]) + _count(wording[1])


def _has_x_alone(wording):
    if isinstance(wording, str):
        return wording == "x"
    return _has_x_alone(wording[0]) and _has_x_alone(wording[1])
