"""Maps that keep products, and rows that go with all others."""

from toldproducts.checks import check_map, check_numbers, check_rows, copied, has_sizes
from toldproducts.elimination import form_of
from toldproducts.errors import InvalidMap, InvalidNumber, InvalidRow
from toldproducts.ratios import NOUGHT, negative
from toldproducts.solving import added, folded, less, related, unit_row, unit_rows


def along(told, row):
    """Return the row to which a map takes a row."""
    check_rows([*told, row])
    _check_even(told)
    if len(row) != len(told):
        raise InvalidRow(list(row))
    return _image(told, row)


def behind(one, other):
    """Return the map that goes by the other one first, then by the one."""
    _check_two(one, other)
    if not has_sizes(other, len(one)):
        raise InvalidMap(copied(other))
    return _behind(one, other)


def bracket(one, other):
    """Return the one behind the other less the other behind the one."""
    _check_two(one, other)
    check_map(one, len(one), len(one))
    check_map(other, len(one), len(one))
    return [less(row, back) for row, back in zip(_behind(one, other), _behind(other, one))]


def keepers(table, u, v, w):
    """Return the space of all maps D from a table to itself with u D(xy) = v (D(x) y) + w (x D(y))."""
    check_numbers([u, v, w])
    size = table.size
    numbers = [u, negative(v), negative(w)]
    # The rests go with the map: those of all maps are known from those of the maps with a single 1.
    rests = []
    for at in range(size * size):
        told = folded(unit_row(size * size, at), size)
        rests.append([pair for i in range(size) for j in range(size) for pair in _rest(table, numbers, told, i, j)])
    return [folded(row, size) for row in related(rests)]


def first_not_kept(table, u, v, w, told):
    """Return the first tuple of places of units for which a map is none of those keepers, None if it is one."""
    check_numbers([u, v, w])
    check_rows(told)
    check_map(told, table.size, table.size)
    numbers = [u, negative(v), negative(w)]
    for i in range(table.size):
        for j in range(table.size):
            if _is_standing(_rest(table, numbers, told, i, j)):
                return (i, j)
    return None


def first_unlike_product(table, other, told):
    """Return the first tuple of places of units whose product a map does not keep, None if there is none."""
    check_rows(told)
    check_map(told, table.size, other.size)
    for i, rows in enumerate(table.products):
        for j, row in enumerate(rows):
            if _image(told, row) != other.product_of(told[i], told[j]):
                return (i, j)
    return None


def taken_to_nothing(told):
    """Return the span of the rows that a map takes to nothing."""
    check_rows(told)
    _check_even(told)
    return related(told)


def come_to(told):
    """Return the span of the rows to which a map takes rows."""
    check_rows(told)
    _check_even(told)
    return form_of(told, _width(told))


def commuting(table):
    """Return the span of the rows a with ax = xa for all rows x."""
    return related([_turns(table, one) for one in unit_rows(table.size)])


def nucleus(table, side):
    """Return the span of the rows that may be grouped either way with all others, at a place of three."""
    if side < 0 or side > 2:
        raise InvalidNumber(side)
    return related([_groupings(table, one, side) for one in unit_rows(table.size)])


def centre(table):
    """Return the span of the rows that go with all others in whatever order and grouping."""
    lists = []
    for one in unit_rows(table.size):
        groupings = [pair for side in range(3) for pair in _groupings(table, one, side)]
        lists.append(_turns(table, one) + groupings)
    return related(lists)


def _check_even(told):
    """Raise InvalidMap if the rows of a map are unlike in length."""
    if not has_sizes(told, _width(told)):
        raise InvalidMap(copied(told))


def _check_two(one, other):
    check_rows([*one, *other])
    _check_even(one)
    _check_even(other)


def _width(told):
    return len(told[0]) if told else 0


def _image(told, row):
    return added(row, told, _width(told))


def _behind(one, other):
    return [_image(one, row) for row in other]


def _rest(table, numbers, told, i, j):
    """Return the sum of D(xy), D(x) y and x D(y), each so many times, for the units x and y at the places i and j."""
    one, other = unit_row(table.size, i), unit_row(table.size, j)
    whole_image = _image(told, table.product_of(one, other))
    rows = [whole_image, table.product_of(told[i], other), table.product_of(one, told[j])]
    return added(numbers, rows, table.size)


def _is_standing(row):
    return any([pair != NOUGHT for pair in row])


def _turns(table, one):
    """Return all numbers of the products of a row with all units, less those the other way about."""
    return [
        pair for unit in unit_rows(table.size)
        for pair in less(table.product_of(one, unit), table.product_of(unit, one))
    ]


def _groupings(table, one, side):
    """Return all numbers of (xy)z less x(yz), with a row at the place told by the side and all units at the others."""
    numbers = []
    units = unit_rows(table.size)
    for first in units:
        for last in units:
            others = [first, last]
            x, y, z = others[:side] + [one] + others[side:]
            ahead = table.product_of(table.product_of(x, y), z)
            numbers.extend(less(ahead, table.product_of(x, table.product_of(y, z))))
    return numbers
