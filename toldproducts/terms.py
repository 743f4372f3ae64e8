"""Terms: what stands in them, and the sums of monomials into which they fall."""

from toldproducts.brackets import leaves_of
from toldproducts.checks import check_number
from toldproducts.errors import InvalidLetter
from toldproducts.ratios import NOUGHT, ONE, multiplied, total


def check_term(term):
    """Raise InvalidNumber or InvalidLetter for the first number or letter of a term that is none."""
    if term[0] == "letter":
        if len(term[1]) != 1 or term[1] < "a" or term[1] > "z":
            raise InvalidLetter(term[1])
    elif term[0] == "take":
        check_number(term[1])
        check_term(term[2])
    elif term[0] != "nothing":
        check_term(term[1])
        check_term(term[2])


def check_terms(terms):
    """Raise InvalidNumber or InvalidLetter for the first number or letter of some terms that is none."""
    for term in terms:
        check_term(term)


def letters_in(term):
    """Return the text of the letters that stand in a term, ascending, each once."""
    return "".join(sorted(set(_standing(term))))


def expansion_of(term):
    """Return the expansion of a term."""
    parts = _parts(term)
    return [parts[text] for text in sorted(parts, key=_rank)]


def letters_of(expansion):
    """Return the text of the letters of an expansion, ascending, each once."""
    return "".join(sorted(set("".join([leaves_of(monomial) for _, monomial in expansion]))))


def counts_in(monomial, letters):
    """Return the tuple of how often each of some letters stands in a monomial."""
    leaves = leaves_of(monomial)
    return tuple([leaves.count(letter) for letter in letters])


def is_many_linear(expansion):
    """Return True if each monomial has each of the letters of an expansion just once."""
    known = letters_of(expansion)
    return all([sorted(leaves_of(monomial)) == list(known) for _, monomial in expansion])


def _rank(text):
    # So many letters have so many brackets: the shorter text has fewer letters.
    return (len(text), text)


def _standing(term):
    if term[0] == "letter":
        return [term[1]]
    if term[0] == "take":
        return _standing(term[2])
    if term[0] == "nothing":
        return []
    return _standing(term[1]) + _standing(term[2])


def _parts(term):
    """Return the dict that has for the text of each monomial of a term its tuple (number, monomial)."""
    if term[0] == "letter":
        return {term[1]: (ONE, term[1])}
    if term[0] == "take":
        return _taken(term[1], _parts(term[2]))
    if term[0] == "plus":
        return _summed(_parts(term[1]), _parts(term[2]))
    if term[0] == "times":
        return _multiplied_out(_parts(term[1]), _parts(term[2]))
    return {}


def _taken(number, parts):
    return _standing_parts({text: (multiplied(number, share), monomial) for text, (share, monomial) in parts.items()})


def _summed(one, other):
    parts = dict(one)
    for text, (number, monomial) in other.items():
        before = one[text][0] if text in one else NOUGHT
        parts[text] = (total([before, number]), monomial)
    return _standing_parts(parts)


def _multiplied_out(one, other):
    return {
        f"({left}{right})": (multiplied(number, share), (monomial, behind))
        for left, (number, monomial) in one.items()
        for right, (share, behind) in other.items()
    }


def _standing_parts(parts):
    """Return the parts whose numbers are not 0."""
    return {text: part for text, part in parts.items() if part[0] != NOUGHT}
