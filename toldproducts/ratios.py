"""Numbers: tuples (above, below) in lowest terms, below at least 1."""

from math import gcd, lcm

NOUGHT = (0, 1)
ONE = (1, 1)


def is_lowest(pair):
    """Return True if a tuple of two integers is a number."""
    above, below = pair
    return below >= 1 and gcd(above, below) == 1


def lowest(above, below):
    """Return the number of two integers, the second one not 0."""
    shared = gcd(above, below)
    if below < 0:
        shared = -shared
    return (above // shared, below // shared)


def negative(pair):
    """Return a number with its sign turned."""
    return (-pair[0], pair[1])


def multiplied(one, other):
    """Return the product of two numbers."""
    return lowest(one[0] * other[0], one[1] * other[1])


def first_place(row):
    """Return the place of the first number that is not 0, their count if there is none."""
    for at, pair in enumerate(row):
        if pair != NOUGHT:
            return at
    return len(row)


def whole(row):
    """Return the tuple (integers, below): the tuples of a row over their least common below."""
    below = 1
    for pair in row:
        below = lcm(below, pair[1])
    return ([pair[0] * (below // pair[1]) for pair in row], below)


def total(shares):
    """Return the sum of tuples (above, below), below at least 1, in lowest terms or not."""
    # What is 0 is left out, for its below would only make the common one greater.
    wholes, below = whole([share for share in shares if share[0] != 0])
    return lowest(sum(wholes), below)
