"""What terms give by a table, reckoned in integers over one below for each row."""

from math import lcm

from toldproducts.terms import counts_in, expansion_of, letters_in


def worth_over(table, term, rows):
    """Return the tuple (integers, below) of a term, with such a tuple for each of its letters."""
    if term[0] == "letter":
        return rows[term[1]]
    if term[0] == "nothing":
        return ([0] * table.size, 1)
    if term[0] == "take":
        entries, below = worth_over(table, term[2], rows)
        return ([term[1][0] * entry for entry in entries], term[1][1] * below)
    one, other = worth_over(table, term[1], rows), worth_over(table, term[2], rows)
    return _sum_over(one, other) if term[0] == "plus" else table.product_over(one, other)


def breaking_rows(table, term):
    """Return the first list of rows of whole numbers by which a term does not give noughts, None if there is none."""
    letters = letters_in(term)
    known = _breaking_sums(letters, expansion_of(term))
    for level in range(1, max([sum(sums) for sums in known], default=0) + 1):
        points = [point for sums in known if sum(sums) == level for point in _points(sums, table.size)]
        for point in sorted(points, reverse=True):
            rows = {letter: (entries, 1) for letter, entries in zip(letters, point)}
            if any(worth_over(table, term, rows)[0]):
                return [[(entry, 1) for entry in entries] for entries in point]
    return None


def _sum_over(one, other):
    below = lcm(one[1], other[1])
    left, right = below // one[1], below // other[1]
    return ([left * entry + right * more for entry, more in zip(one[0], other[0])], below)


def _breaking_sums(letters, expansion):
    """Return the list of the tuples of sums of rows, one for each letter, at which a term can break first.

    Where all lists of rows with lesser numbers give noughts, only those monomials tell at some rows that
    have just the letters whose rows are not noughts, each at least as often as its row's numbers add up to.
    """
    found = {}
    for counts in [counts_in(monomial, letters) for _, monomial in expansion]:
        lists = [()]
        for count in counts:
            lists = [(*sums, more) for sums in lists for more in range(min(1, count), count + 1)]
        for sums in lists:
            found[sums] = True
    return list(found)


def _points(sums, size):
    """Return all lists of rows of integers from 0 on that add up to the sums, one row for each."""
    points = [[]]
    for count in sums:
        rows = _adding_up(count, size)
        points = [[*point, row] for point in points for row in rows]
    return points


def _adding_up(count, size):
    """Return all rows of so many integers from 0 on that add up to a count."""
    if size == 1:
        return [[count]]
    return [[first, *rest] for first in range(count + 1) for rest in _adding_up(count - first, size - 1)]
