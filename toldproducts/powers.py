"""Powers of a row in either bracketing, and rows that solve a product."""

from toldproducts.checks import check_rows_of
from toldproducts.elimination import shortened
from toldproducts.errors import InvalidNumber
from toldproducts.ratios import first_place, lowest, negative, whole
from toldproducts.solving import all_told, related, unit_rows
from toldproducts.tables import opposite

# Up to six units no powers that come again need more of them: the longest round is 30.
ENOUGH = 36


def power(table, row, times):
    """Return the power of a row for an exponent from 1 on."""
    check_rows_of([row], table.size)
    if times < 1:
        raise InvalidNumber(times)
    return _row_of(_whole_powers(table, row, times)[-1])


def turned_power(table, row, times):
    """Return the turned power of a row for an exponent from 1 on."""
    # What stands on the right of a product stands on the left of the opposite one.
    return power(opposite(table), row, times)


def powers(table, row, many):
    """Return the list of so many first powers of a row."""
    check_rows_of([row], table.size)
    if many < 0:
        raise InvalidNumber(many)
    return _first_powers(table, row, many)


def least_row(table, row):
    """Return the shortest list of numbers with which the powers ahead of each later power add up to it."""
    check_rows_of([row], table.size)
    found = _first_powers(table, row, table.size + 1)
    # With the later powers ahead, the last relation begins as late as one can: at the first power
    # that those before it add up to.
    last = related(found[::-1])[-1]
    return [negative(pair) for pair in last[first_place(last) + 1:]]


def first_nothing(table, row):
    """Return the least exponent whose power is nothing, None if there is none."""
    check_rows_of([row], table.size)
    # None of the powers ahead of the first one that is nothing is a sum of the others: they are no more than the units.
    for at, (entries, _) in enumerate(_whole_powers(table, row, table.size + 1)):
        if not any(entries):
            return at + 1
    return None


def comes_again(table, row):
    """Return the tuple (begin, round) of the powers of a row that come again, None if they never do."""
    check_rows_of([row], table.size)
    found = _whole_powers(table, row, ENOUGH)
    for begin, one in enumerate(found):
        later = found[begin + 1:]
        if one in later:
            return (begin + 1, later.index(one) + 1)
    return None


def first_unlike_power(table, row):
    """Return the least exponent whose power and turned power are unlike, None if there is none."""
    check_rows_of([row], table.size)
    # Powers that are alike up to one more than there are units follow the same row, and so stay alike.
    ones = _whole_powers(table, row, table.size + 1)
    others = _whole_powers(opposite(table), row, table.size + 1)
    for at, (one, other) in enumerate(zip(ones, others)):
        if one != other:
            return at + 1
    return None


def solved(table, one, other):
    """Return the tuple (row, span) of all rows y with one times y = other, None if there are none."""
    check_rows_of([one, other], table.size)
    return all_told(other, [table.product_of(one, unit) for unit in unit_rows(table.size)])


def turned_solved(table, one, other):
    """Return the tuple (row, span) of all rows y with y times one = other, None if there are none."""
    return solved(opposite(table), one, other)


def _first_powers(table, row, many):
    return [_row_of(told) for told in _whole_powers(table, row, many)]


def _whole_powers(table, row, many):
    """Return the list of so many first powers, each as the tuple (integers, below) in lowest terms as a whole."""
    first = whole(row)
    found = []
    for _ in range(many):
        found.append(_shortest(table.product_over(found[-1], first)) if found else first)
    return found


def _shortest(told):
    # The below comes first: where it is 1, no divisor is looked for.
    below, *entries = shortened([told[1], *told[0]])
    return (entries, below)


def _row_of(told):
    return [lowest(entry, told[1]) for entry in told[0]]
