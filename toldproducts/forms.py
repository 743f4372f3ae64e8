"""Forms: the worth of two rows, and the forms that go with a product."""

from toldproducts.checks import check_rows, check_sizes, check_span, copied, has_sizes
from toldproducts.errors import InvalidForm, InvalidNumber
from toldproducts.ratios import NOUGHT, multiplied, negative, total
from toldproducts.solving import added, folded, related


def form_worth(form, one, other):
    """Return the worth of two rows by a form."""
    check_rows([*form, one, other])
    _check_form(form, len(form))
    check_sizes([one, other], len(form))
    return _worth(added(one, form, len(form)), other)


def null_span(form, side):
    """Return the span of the rows whose worth with all rows is 0, at the side 0 or 1."""
    check_rows(form)
    _check_form(form, len(form))
    if side < 0 or side > 1:
        raise InvalidNumber(side)
    return related(_turned(form) if side else form)


def is_even(form):
    """Return True if the worth of any two rows is that of them turned about."""
    check_rows(form)
    _check_form(form, len(form))
    return _turned(form) == form


def moved_forms(table):
    """Return the space of all forms f with f(xy, z) = f(x, yz) for all rows x, y and z."""
    size = table.size
    products = table.products
    # The rests go with the form: those of all forms are known from those of the forms with a single 1.
    rests = []
    for a in range(size):
        for b in range(size):
            rests.append([
                _rest_of_one(products, (a, b), (i, j, k))
                for i in range(size) for j in range(size) for k in range(size)
            ])
    return [folded(row, size) for row in related(rests)]


def first_not_moved(table, form):
    """Return the first tuple (i, j, k) of places of units for which a form does not go so, None if it always does."""
    check_rows(form)
    _check_form(form, table.size)
    products, columns = table.products, _turned(form)
    for i, rows in enumerate(products):
        for j, row in enumerate(rows):
            for k, column in enumerate(columns):
                if _worth(row, column) != _worth(form[i], products[j][k]):
                    return (i, j, k)
    return None


def trace_form(table):
    """Return the form whose worth of x and y is the sum, over all units e, of the number at e of x (y e)."""
    products = table.products
    return [[_trace(one, other) for other in products] for one in products]


def across(table, form, span):
    """Return the span of the rows y of which the worth of s and y is 0 for each row s of a span."""
    check_rows([*form, *span])
    _check_form(form, table.size)
    check_span(span, table.size)
    worths = [added(row, form, table.size) for row in span]
    return related([[row[at] for row in worths] for at in range(table.size)])


def _check_form(form, size):
    """Raise InvalidForm if a form is not as many rows of the size as the size."""
    if len(form) != size or not has_sizes(form, size):
        raise InvalidForm(copied(form))


def _turned(form):
    return [[row[at] for row in form] for at in range(len(form))]


def _worth(one, other):
    """Return the sum of the products of the numbers of two rows at the same places."""
    return total([(above * more, below * under) for (above, below), (more, under) in zip(one, other)])


def _rest_of_one(products, ends, places):
    """Return f(xy, z) less f(x, yz) for three units, by the form that is 1 at two ends and 0 elsewhere."""
    a, b = ends
    i, j, k = places
    ahead = products[i][j][a] if k == b else NOUGHT
    later = products[j][k][b] if i == a else NOUGHT
    return total([ahead, negative(later)])


def _trace(one, other):
    """Return the sum, over all units e, of the number at e of the product by the one of that of the other with e."""
    return total([
        multiplied(row[at], one[at][place]) for place, row in enumerate(other) for at in range(len(row))
    ])
