"""Tables: the products of all units, and so of all rows."""

from toldproducts.checks import check_map, check_number, check_rows, check_rows_of, copied, is_cube
from toldproducts.errors import InvalidBasis, InvalidTable, UnlikeSizes
from toldproducts.ratios import NOUGHT, ONE, lowest, multiplied, whole
from toldproducts.solving import added, all_told, related, told, unit_row, unit_rows


class Table:
    """The product of any two rows of a size; it never changes."""

    def __init__(self, products):
        for lists in products:
            check_rows(lists)
        if not is_cube(products):
            raise InvalidTable([copied(rows) for rows in products])
        self._products = [copied(rows) for rows in products]
        # One below for all numbers: a product of rows then adds up integers alone.
        size = len(products)
        entries, self._below = whole([pair for rows in products for row in rows for pair in row])
        self._wholes = [entries[at * size:(at + 1) * size] for at in range(size * size)]

    @property
    def size(self):
        return len(self._products)

    @property
    def products(self):
        return [copied(rows) for rows in self._products]

    def __call__(self, one, other):
        check_rows_of([one, other], self.size)
        return self.product_of(one, other)

    def __eq__(self, other):
        return isinstance(other, Table) and self._products == other._products

    def product_of(self, one, other):
        """Return the product of two rows that are known to be right."""
        entries, below = self.product_over(whole(one), whole(other))
        return [lowest(entry, below) for entry in entries]

    def product_over(self, one, other):
        """Return the tuple (integers, below) of the product of two rows that are told by such tuples."""
        lefts, left_below = one
        rights, right_below = other
        shares = [left * right for left in lefts for right in rights]
        sums = [0] * len(lefts)
        for share, row in zip(shares, self._wholes):
            if share != 0:
                sums = [entry + share * more for entry, more in zip(sums, row)]
        return (sums, left_below * right_below * self._below)


def left_map(table, row):
    """Return the list of the products of a row, on the left, with each unit."""
    check_rows_of([row], table.size)
    return [table.product_of(row, one) for one in unit_rows(table.size)]


def right_map(table, row):
    """Return the list of the products of each unit with a row, on the right."""
    check_rows_of([row], table.size)
    return [table.product_of(one, row) for one in unit_rows(table.size)]


def opposite(table):
    """Return the table whose product is the other way about."""
    products = table.products
    return Table([[rows[at] for rows in products] for at in range(table.size)])


def both_ways(table, number):
    """Return the table of the product and so many times the other way about."""
    check_number(number)
    return _mixed(table, opposite(table), number)


def blended(one, other, number):
    """Return the table of the sum of one product and so many times the other."""
    check_number(number)
    if one.size != other.size:
        raise UnlikeSizes(other.size)
    return _mixed(one, other, number)


def beside(one, other):
    """Return the table of rows that are one of the one, then one of the other, multiplied each by itself."""
    ahead, behind = [NOUGHT] * one.size, [NOUGHT] * other.size
    ends = ahead + behind
    firsts = [[row + behind for row in rows] + [ends for _ in behind] for rows in one.products]
    lasts = [[ends for _ in ahead] + [ahead + row for row in rows] for rows in other.products]
    return Table(firsts + lasts)


def crossed(one, other):
    """Return the table of pairs of units, whose product is that of both."""
    rights = other.products
    return Table([
        [_all_by_all(left, right) for left in lefts for right in others]
        for lefts in one.products for others in rights
    ])


def over(table, rows):
    """Return the table of the same product, where unit i stands for the row i of a basis."""
    check_rows_of(rows, table.size)
    if len(rows) != table.size or related(rows):
        raise InvalidBasis(copied(rows))
    return Table([[told(table.product_of(one, other), rows) for other in rows] for one in rows])


def changed(table, left, right):
    """Return the table of the product of the images of both rows, by a map for each side."""
    check_rows([*left, *right])
    check_map(left, table.size, table.size)
    check_map(right, table.size, table.size)
    return Table([[table.product_of(one, other) for other in right] for one in left])


def with_one(table):
    """Return the table of size one more whose unit 0 is a one, followed by the elder units."""
    size = table.size + 1
    first = unit_rows(size)
    later = [[[NOUGHT] + row for row in rows] for rows in table.products]
    return Table([first] + [[unit_row(size, at + 1)] + rows for at, rows in enumerate(later)])


def ones(table):
    """Return the row that is a one on both sides, None if there is none."""
    lefts, rights = _actions(table), _actions(opposite(table))
    wish = _still(table)
    return told(wish + wish, [left + right for left, right in zip(lefts, rights)])


def left_ones(table):
    """Return the tuple (row, span) of all rows e with e x = x for all rows x, None if there is none."""
    return all_told(_still(table), _actions(table))


def right_ones(table):
    """Return the tuple (row, span) of all rows e with x e = x for all rows x, None if there is none."""
    return left_ones(opposite(table))


def _mixed(one, other, number):
    return Table([
        [added([ONE, number], [row, more], one.size) for row, more in zip(rows, others)]
        for rows, others in zip(one.products, other.products)
    ])


def _all_by_all(left, right):
    return [multiplied(one, other) for one in left for other in right]


def _actions(table):
    """Return for each unit, on the left, its products with all units one behind the other."""
    return [[pair for row in rows for pair in row] for rows in table.products]


def _still(table):
    """Return all units one behind the other: what a left one makes of them."""
    return [pair for row in unit_rows(table.size) for pair in row]
