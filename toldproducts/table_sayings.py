"""All many-linear sayings of a table."""

from toldproducts.brackets import ALPHABET, all_monomials, text_of, with_images
from toldproducts.elimination import form_of
from toldproducts.ratios import NOUGHT
from toldproducts.solving import related


def sayings_by(table, many):
    """Return the form of the lists of numbers with which all monomials of so many letters add up to a saying.

    Whatever holds still holds when two letters are exchanged. So each saying is a sum of one that stays when a and b
    are exchanged and one that turns its sign then, and so on with c and d. Each such piece has fewer numbers of its
    own: it is found much faster than the whole.
    """
    monomials = all_monomials(many)
    lists = _worths_at_units(table, monomials, ALPHABET[:many])
    swaps = _swaps(many)
    orbits = _orbits(monomials, swaps)
    found = []
    for signs in _signs(len(swaps)):
        sums = [_signed_sum(signs, [lists[at] for at in orbit]) for orbit in orbits]
        found.extend([_spread(numbers, orbits, signs) for numbers in related(sums)])
    return form_of(found, len(monomials))


def _worths_at_units(table, monomials, letters):
    """Return for each monomial the list of all integers that it gives at all units, over the same below."""
    steps = _steps(monomials)
    units = [(entries, 1) for entries in _whole_units(table.size)]
    worths = []
    for choice in _choices(letters, units):
        known = dict(choice)
        for text, left, right in steps:
            known[text] = table.product_over(known[left], known[right])
        worths.append(known)
    names = [text_of(monomial) for monomial in monomials]
    return [[entry for worth in worths for entry in worth[name][0]] for name in names]


def _whole_units(size):
    return [[1 if at == place else 0 for at in range(size)] for place in range(size)]


def _steps(monomials):
    """Return the list of the tuples (text, left text, right text) of all products within, the shorter ones first."""
    found = {}
    for monomial in monomials:
        for one, other in _products_in(monomial):
            left, right = text_of(one), text_of(other)
            found[f"({left}{right})"] = (left, right)
    return [(text, found[text][0], found[text][1]) for text in sorted(found, key=len)]


def _products_in(monomial):
    """Return the list of all products within a monomial, itself ahead."""
    if isinstance(monomial, str):
        return []
    return [monomial] + _products_in(monomial[0]) + _products_in(monomial[1])


def _choices(letters, things):
    """Return all dicts that have one of some things for each letter."""
    choices = [{}]
    for letter in letters:
        choices = [{**choice, letter: thing} for choice in choices for thing in things]
    return choices


def _swaps(many):
    """Return the exchanges of a and b, and of c and d, as far as there are these letters, as dicts."""
    letters = ALPHABET[:many]
    still = {letter: letter for letter in letters}
    pairs = [("a", "b"), ("c", "d")]
    return [{**still, one: other, other: one} for one, other in pairs if other in letters]


def _orbits(monomials, swaps):
    """Return the lists of the places of monomials that are told by one another through the exchanges."""
    places = {text_of(monomial): at for at, monomial in enumerate(monomials)}
    seen, orbits = {}, []
    for monomial in monomials:
        images = [monomial]
        for swap in swaps:
            images = images + [with_images(image, swap) for image in images]
        orbit = [places[text_of(image)] for image in images]
        if orbit[0] not in seen:
            orbits.append(orbit)
            seen.update({at: True for at in orbit})
    return orbits


def _signs(many):
    """Return the lists of the signs of what an orbit lists, for each choice of a sign for each exchange."""
    lists = [[1]]
    for _ in range(many):
        lists = [signs + [turn * sign for sign in signs] for signs in lists for turn in (1, -1)]
    return lists


def _signed_sum(signs, lists):
    sums = [0] * len(lists[0])
    for sign, entries in zip(signs, lists):
        sums = [entry + sign * more for entry, more in zip(sums, entries)]
    return [(entry, 1) for entry in sums]


def _spread(numbers, orbits, signs):
    """Return the list of numbers for all monomials, from the numbers of the orbits."""
    spread = [NOUGHT] * (len(orbits) * len(signs))
    for (above, below), orbit in zip(numbers, orbits):
        for sign, at in zip(signs, orbit):
            spread[at] = (sign * above, below)
    return spread
