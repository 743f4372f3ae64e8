"""What a text says to a desk."""

from toldproducts.deeds import is_name
from toldproducts.errors import Unreadable
from toldproducts.readings import read_integer, read_number, read_row, read_term

# For each first word, how many names follow, and what stands behind them.
SHAPES = {
    "put": (1, "row"), "times": (3, ""), "plus": (3, ""), "scaled": (2, "number"), "power": (2, "exponent"),
    "turned": (2, "exponent"), "unit": (1, "place"), "part": (1, "names"), "sided": (1, "names"), "by": (3, ""),
    "met": (3, ""), "all": (1, ""), "drop": (1, ""), "branch": (1, ""), "switch": (1, ""), "undo": (0, ""),
    "show": (1, ""), "lies": (2, ""), "holds": (0, "term"), "breaks": (0, "term"), "forks": (0, ""), "names": (0, ""),
    "same": (1, ""),
}


def read_order(text):
    """Return the tuple (first word, list of what stands behind it) of an order."""
    words = text.split(" ")
    if words[0] not in SHAPES:
        raise Unreadable(text)
    many, kind = SHAPES[words[0]]
    names, rest = words[1:many + 1], words[many + 1:]
    if len(names) < many or not _are_names(names):
        raise Unreadable(text)
    try:
        return (words[0], names + _read_rest(rest, kind))
    except Unreadable:
        raise Unreadable(text) from None


def _are_names(words):
    return all([is_name(word) for word in words])


def _read_rest(words, kind):
    """Return the list of what is read from the words behind the names: of one thing, or of none."""
    text = " ".join(words)
    if kind == "row":
        return [read_row(text)]
    if kind == "number":
        return [read_number(text)]
    if kind == "term":
        return [read_term(text)]
    if kind == "place":
        return [_read_from(text, 0)]
    if kind == "exponent":
        return [_read_from(text, 1)]
    if kind == "names":
        return [_read_names(words)]
    if words:
        raise Unreadable(text)
    return []


def _read_names(words):
    """Return the list of one to six names."""
    if len(words) < 1 or len(words) > 6 or not _are_names(words):
        raise Unreadable(" ".join(words))
    return words


def _read_from(text, least):
    """Return the integer that has a text, from the least one on."""
    found = read_integer(text)
    if found < least:
        raise Unreadable(text)
    return found
