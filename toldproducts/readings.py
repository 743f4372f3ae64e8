"""Numbers, rows, tables and terms, read from their texts."""

from toldproducts.checks import is_cube
from toldproducts.errors import Unreadable
from toldproducts.ratios import is_lowest
from toldproducts.tables import Table

DIGITS = "0123456789"
# So many of them an integer in a text has at most.
MOST = 9


def read_number(text):
    """Return the number that has a text."""
    number = _number_in(text)
    if number is None:
        raise Unreadable(text)
    return number


def read_row(text):
    """Return the row that has a text."""
    row = _row_in(text)
    if row is None:
        raise Unreadable(text)
    return row


def read_table(text):
    """Return the table that has a text."""
    products = [[_row_in(word) for word in part.split(" ; ")] for part in text.split(" | ")]
    if None in [row for rows in products for row in rows] or not is_cube(products):
        raise Unreadable(text)
    return Table(products)


def read_term(text):
    """Return the term that has a text."""
    found = _term_at(text, 0)
    if found is None or found[1] != len(text):
        raise Unreadable(text)
    return found[0]


def read_integer(text):
    """Return the integer that has a text."""
    if not _is_integer(text):
        raise Unreadable(text)
    return int(text)


def _is_integer(text):
    digits = text[1:] if text.startswith("-") else text
    if len(digits) < 1 or len(digits) > MOST or not all([sign in DIGITS for sign in digits]):
        return False
    return digits[0] != "0" or text == "0"


def _number_in(text):
    """Return the number that has a text, None if there is none."""
    above, stroke, below = text.partition("/")
    if not _is_integer(above) or (stroke and not _is_integer(below)):
        return None
    if not stroke:
        return (int(above), 1)
    number = (int(above), int(below))
    # A 1 below is not written.
    return number if is_lowest(number) and number[1] != 1 else None


def _row_in(text):
    """Return the row that has a text, None if there is none."""
    if text == "-":
        return []
    row = [_number_in(word) for word in text.split(" ")]
    return None if None in row else row


def _term_at(text, at):
    """Return the tuple (term, end) of the term whose text begins at a place, None if there is none."""
    sign = text[at:at + 1]
    if sign == "(":
        return _pair_at(text, at + 1)
    if sign >= "a" and sign <= "z":
        return (("letter", sign), at + 1)
    return _taken_at(text, at)


def _pair_at(text, at):
    """Return the tuple (term, end) of a sum or a product, behind its open bracket, None if there is none."""
    one = _term_at(text, at)
    if one is None:
        return None
    sign = " + " if text[one[1]:one[1] + 3] == " + " else " "
    begin = one[1] + len(sign)
    if text[one[1]:begin] != sign:
        return None
    other = _term_at(text, begin)
    if other is None or text[other[1]:other[1] + 1] != ")":
        return None
    return (("plus" if sign == " + " else "times", one[0], other[0]), other[1] + 1)


def _taken_at(text, at):
    """Return the tuple (term, end) of "nothing", or of so many times a term, None if there is none."""
    end = at
    while end < len(text) and (text[end] in DIGITS or text[end] in "-/"):
        end = end + 1
    word = text[at:end]
    if text[end:end + 1] != "[":
        return (("nothing",), end) if word == "0" else None
    number = _number_in(word)
    if number is None:
        return None
    one = _term_at(text, end + 1)
    if one is None or text[one[1]:one[1] + 1] != "]":
        return None
    return (("take", number, one[0]), one[1] + 1)
