"""The form of a span, guessed by what is left over a great prime, and proved."""

from toldproducts.ratios import lowest, whole

# The prime 2 ** 127 - 1: a wrong guess is all but out of the question, and its numbers are still short.
PRIME = 170141183460469231731687303715884105727
# Twice its square is less than the prime, so no two numbers of such integers are alike over the prime.
BOUND = 2 ** 62


def guessed_form(wholes, width):
    """Return the form of the span of rows of integers, None if this way does not find it."""
    leads = leads_over_prime(wholes, width)
    form = []
    for _, lead in leads:
        row = rebuilt_row(lead)
        if row is None:
            return None
        form.append(row)
    # The rows have at least the rank that they have over the prime. So a form of this rank
    # that tells all of them is the right one, whatever the prime was.
    places = [place for place, _ in leads]
    return form if tells(form, places, wholes, width) else None


def leads_over_prime(wholes, width):
    """Return the form over the prime, as a list of tuples (first place, row) by their places."""
    leads = []
    for row in wholes:
        rest = rest_over_prime(row, leads)
        place = first_standing(rest)
        if place == width:
            continue
        share = euclid(rest[place], 1)[1]
        lead = (place, [entry * share % PRIME for entry in rest])
        leads = [(at, rest_over_prime(elder, [lead])) for at, elder in leads] + [lead]
        if len(leads) == width:
            break
    return sorted(leads, key=lambda pair: pair[0])


def rest_over_prime(row, leads):
    """Return what is left of a row when the leads are taken off at their places."""
    # Each lead is 0 at the places of the others, so all can be taken off at once.
    shares = [(row[place], lead) for place, lead in leads if row[place] != 0]
    return [(entry - sum([share * lead[at] for share, lead in shares])) % PRIME for at, entry in enumerate(row)]


def first_standing(row):
    """Return the place of the first integer that is not 0, their count if there is none."""
    for at, entry in enumerate(row):
        if entry != 0:
            return at
    return len(row)


def euclid(rest, limit):
    """Return (least, share), the first least at most the limit, with share times rest alike to it over the prime."""
    elder, least, elder_share, share = PRIME, rest, 0, 1
    while least > limit:
        times = elder // least
        elder, least = least, elder - times * least
        elder_share, share = share, elder_share - times * share
    return (least, share)


def rebuilt_row(row):
    """Return the row of small numbers that are alike to integers over the prime, None if there is none."""
    numbers = []
    for entry in row:
        above, below = euclid(entry, BOUND)
        if abs(below) > BOUND:
            return None
        numbers.append(lowest(above, below))
    return numbers


def tells(form, places, wholes, width):
    """Return True if each row of integers is the sum of the rows of a form, each times its number at their places."""
    entries, below = whole([pair for row in form for pair in row])
    leads = [(place, entries[at * width:(at + 1) * width]) for at, place in enumerate(places)]
    free = [at for at in range(width) if at not in places]
    for row in wholes:
        shares = [(row[place], lead) for place, lead in leads if row[place] != 0]
        for at in free:
            if below * row[at] != sum([share * lead[at] for share, lead in shares]):
                return False
    return True
