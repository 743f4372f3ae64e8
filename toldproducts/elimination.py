"""The form of the span of any rows."""

from math import gcd, lcm

from toldproducts.guesses import leads_over_prime, rebuilt_form, tells
from toldproducts.ratios import NOUGHT, ONE, lowest, whole


def form_of(rows, width):
    """Return the form of the span of rows of so many numbers."""
    wholes = [shortened(whole(row)[0]) for row in rows]
    wholes = [row for row in wholes if any(row)]
    leads = leads_over_prime(wholes, width)
    # The rows have at least the rank that they have over the prime. So a form of this rank
    # that tells all of them is the right one, whatever the prime was.
    form = rebuilt_form(leads)
    if form is not None and tells(form, wholes, width):
        return form
    # The rows that told the leads span a form of this rank, of numbers of any length.
    taken = [lead[2] for lead in leads]
    form = eliminated([wholes[at] for at in taken], width)
    left = [row for at, row in enumerate(wholes) if at not in taken]
    return form if tells(form, left, width) else eliminated(wholes, width)


def eliminated(wholes, width):
    """Return the form of the span of rows of integers, by elimination alone."""
    return stepped_up(stepped_down(wholes, width), width)


def stepped_down(wholes, width):
    """Return the list of tuples (first place, row) to which rows of integers come down by elimination."""
    rows, leads = wholes, []
    for place in range(width):
        standing = [at for at, row in enumerate(rows) if row[place] != 0]
        if not standing:
            continue
        first = standing[0]
        lead = rows[first]
        rest = rows[:first] + rows[first + 1:]
        lowered = [taken_off(row, lead, place) for row in rest]
        rows = [row for row in lowered if any(row)]
        leads.append((place, lead))
    return leads


def taken_off(row, lead, place):
    """Return a row with 0 at the place, by means of a lead that begins there."""
    if row[place] == 0:
        return row
    behind = [
        lead[place] * entry - row[place] * other
        for entry, other in zip(row[place + 1:], lead[place + 1:])
    ]
    return [0] * (place + 1) + shortened(behind)


def shortened(entries):
    """Return integers without their common divisor: else they would grow longer with each step."""
    shared = 0
    for entry in entries:
        shared = gcd(shared, entry)
        if shared == 1:
            return entries
    return [entry // shared for entry in entries] if shared else entries


def stepped_up(leads, width):
    """Return the form of the span of what `stepped_down` tells."""
    places = [place for place, _ in leads]
    free = [column for column in range(width) if column not in places]
    form = []
    for place, entries, below in reversed(solved_up(leads, free)):
        row = [NOUGHT] * width
        row[place] = ONE
        for column, entry in zip(free, entries):
            row[column] = lowest(entry, below)
        form.append(row)
    return form


def solved_up(leads, free):
    """Return the list of tuples (first place, integers at the free columns, their below), the last lead first."""
    solved = []
    for place, row in reversed(leads):
        # What the later leads have come to is taken off, all over one below.
        shared = 1
        for solution in solved:
            shared = lcm(shared, solution[2])
        shares = [(row[at] * (shared // under), known) for at, known, under in solved]
        entries = [
            shared * row[column] - sum([share * known[at] for share, known in shares])
            for at, column in enumerate(free)
        ]
        below, *numbers = shortened([shared * row[place], *entries])
        solved.append((place, numbers, below))
    return solved
