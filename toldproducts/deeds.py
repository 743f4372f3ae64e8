"""Named rows and spans, and the deeds that make new ones of them.

They stand in a dict that has for each name the tuple (kind, row) or (kind, span).
"""

from toldproducts.brackets import ALPHABET
from toldproducts.errors import InvalidName, UnknownName, WrongKind
from toldproducts.parts import part, products_of, two_sided
from toldproducts.powers import power, turned_power
from toldproducts.rows import met, sum_of, times, unit
from toldproducts.solving import unit_rows

ROW = "row"
SPAN = "span"
# So many letters a name has at most.
MOST = 8


def is_name(text):
    """Return True if a text is a name."""
    return len(text) >= 1 and len(text) <= MOST and all([sign in ALPHABET for sign in text])


def check_name(name):
    """Raise InvalidName if a text is no name."""
    if not is_name(name):
        raise InvalidName(name)


def check_known(known, names):
    """Raise UnknownName for the first name that a dict has not."""
    for name in names:
        if name not in known:
            raise UnknownName(name)


def named(known, names, kind):
    """Return the list of the rows, or the spans, of some names."""
    check_known(known, names)
    for name in names:
        if known[name][0] != kind:
            raise WrongKind(name)
    return [known[name][1] for name in names]


def row_made(table, known, deed):
    """Return the row that a deed makes of named ones."""
    word = deed[0]
    if word == "unit":
        return unit(table.size, deed[1])
    if word in ("times", "plus"):
        one, other = named(known, [deed[1], deed[2]], ROW)
        return table(one, other) if word == "times" else sum_of(one, other)
    row = named(known, [deed[1]], ROW)[0]
    if word == "scaled":
        return times(deed[2], row)
    return power(table, row, deed[2]) if word == "power" else turned_power(table, row, deed[2])


def span_made(table, known, deed):
    """Return the span that a deed makes of named rows or spans."""
    word = deed[0]
    if word == "all":
        return unit_rows(table.size)
    if word in ("by", "met"):
        one, other = named(known, [deed[1], deed[2]], SPAN)
        return products_of(table, one, other) if word == "by" else met(one, other, table.size)
    rows = named(known, deed[1], ROW)
    return part(table, rows) if word == "part" else two_sided(table, rows)
