"""Rows that are known to be right: their sums, and the numbers with which they add up."""

from toldproducts.elimination import form_of
from toldproducts.ratios import NOUGHT, ONE, first_place, negative, total


def unit_row(size, place):
    """Return the unit of a size."""
    return [ONE if at == place else NOUGHT for at in range(size)]


def unit_rows(size):
    """Return all units of a size."""
    return [unit_row(size, at) for at in range(size)]


def added(numbers, rows, size):
    """Return the sum of rows of a size, each so many times."""
    columns = [[(pair, row[at]) for pair, row in zip(numbers, rows)] for at in range(size)]
    return [total([(one[0] * other[0], one[1] * other[1]) for one, other in column]) for column in columns]


def less(one, other):
    """Return a row less another one."""
    return added([ONE, negative(ONE)], [one, other], len(one))


def folded(row, size):
    """Return a row of all numbers of some rows of a size as these rows."""
    return [row[at:at + size] for at in range(0, len(row), size)]


def is_form(rows):
    """Return True if rows of one size are the form of a span."""
    before = -1
    for row in rows:
        place = first_place(row)
        if place <= before or place == len(row) or row[place] != ONE:
            return False
        if len([other for other in rows if other[place] != NOUGHT]) != 1:
            return False
        before = place
    return True


def rest_over(form, row):
    """Return what is left of a row when the rows of a form are taken off at their first places."""
    numbers = [negative(row[first_place(lead)]) for lead in form]
    return added([ONE, *numbers], [row, *form], len(row))


def places_in(form, row):
    """Return the list of numbers with which the rows of a form add up to a row, None if they do not."""
    numbers = [row[first_place(lead)] for lead in form]
    return numbers if added(numbers, form, len(row)) == row else None


def told(row, rows):
    """Return the list of numbers with which rows add up to a row, 0 for what those ahead tell; None if they do not."""
    many = len(rows)
    turned = [[other[at] for other in rows] + [pair] for at, pair in enumerate(row)]
    numbers = [NOUGHT] * many
    for lead in form_of(turned, many + 1):
        place = first_place(lead)
        if place == many:
            return None
        numbers[place] = lead[many]
    return numbers


def related(rows):
    """Return the form of the lists of numbers with which rows add up to noughts."""
    if not rows:
        return []
    # With the rows turned about, each free place has a list that is 0 ahead of it when it is read backwards.
    many = len(rows)
    turned = [[row[at] for row in reversed(rows)] for at in range(len(rows[0]))]
    form = form_of(turned, many)
    places = [first_place(lead) for lead in form]
    lists = []
    for free in reversed(range(many)):
        if free not in places:
            numbers = unit_row(many, free)
            for place, lead in zip(places, form):
                numbers[place] = negative(lead[free])
            lists.append(numbers[::-1])
    return lists


def all_told(row, rows):
    """Return (numbers, form): all lists with which rows add up to a row are the numbers and what the form adds.

    The numbers are 0 at the first places of the form's rows. None if the rows do not add up to it.
    """
    # The first places are those of the rows that are told by those behind them.
    numbers = told(row, rows[::-1])
    if numbers is None:
        return None
    return (numbers[::-1], related(rows))


def in_both(one, other, size):
    """Return the form of what the spans of two forms have in common."""
    rests = [rest_over(other, row) for row in one]
    # Sums of a form's rows by the rows of a form are a form again.
    return [added(numbers, one, size) for numbers in related(rests)]
