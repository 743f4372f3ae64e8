"""The form of a span, guessed by what is left over a great prime, and proved."""

from toldproducts.ratios import first_place, lowest, whole

# The prime 2 ** 127 - 1: a wrong guess is all but out of the question, and its numbers are still short.
PRIME = 170141183460469231731687303715884105727
# Twice its square is less than the prime, so no two numbers of such integers are alike over the prime.
BOUND = 2 ** 62


def leads_over_prime(wholes, width):
    """Return the form over the prime, as a list of tuples (first place, row, place of the row that told it)."""
    leads = []
    for number, row in enumerate(wholes):
        rest = rest_over_prime(row, leads)
        place = first_standing(rest)
        if place == width:
            continue
        share = euclid(rest[place], 1)[1]
        lead = (place, [entry * share % PRIME for entry in rest], number)
        elders = [
            (at, rest_over_prime(elder, [lead]) if elder[place] != 0 else elder, elder_number)
            for at, elder, elder_number in leads
        ]
        leads = [*elders, lead]
        if len(leads) == width:
            break
    return sorted(leads, key=lambda lead: lead[0])


def rebuilt_form(leads):
    """Return the form of small numbers that is alike to a form over the prime, None if there is none."""
    form = []
    for _, lead, _ in leads:
        row = rebuilt_row(lead)
        if row is None:
            return None
        form.append(row)
    return form


def rest_over_prime(row, leads):
    """Return what is left of a row when the leads are taken off at their places."""
    # Each lead is 0 at the places of the others, so all can be taken off at once.
    shares = [(row[place], lead) for place, lead, _ in leads if row[place] != 0]
    return [(entry - sum([share * lead[at] for share, lead in shares])) % PRIME for at, entry in enumerate(row)]


def first_standing(row):
    """Return the place of the first integer that is not 0, their count if there is none."""
    for at, entry in enumerate(row):
        if entry != 0:
            return at
    return len(row)


def euclid(rest, limit):
    """Return (least, share), the first least at most the limit, with share times rest alike to it over the prime."""
    elder, least, elder_share, share = PRIME, rest, 0, 1
    while least > limit:
        times = elder // least
        elder, least = least, elder - times * least
        elder_share, share = share, elder_share - times * share
    return (least, share)


def rebuilt_row(row):
    """Return the row of small numbers that are alike to integers over the prime, None if there is none."""
    numbers = []
    for entry in row:
        above, below = euclid(entry, BOUND)
        if abs(below) > BOUND:
            return None
        numbers.append(lowest(above, below))
    return numbers


def tells(form, wholes, width):
    """Return True if each row of integers is the sum of the rows of a form, each times its number at their places."""
    places = [first_place(row) for row in form]
    entries, below = whole([pair for row in form for pair in row])
    leads = [(place, entries[at * width:(at + 1) * width]) for at, place in enumerate(places)]
    free = [at for at in range(width) if at not in places]
    for row in wholes:
        shares = [(row[place], lead) for place, lead in leads if row[place] != 0]
        for at in free:
            if below * row[at] != sum([share * lead[at] for share, lead in shares]):
                return False
    return True
