"""Terms, sayings that hold by a table, and sayings that follow from others."""

from toldproducts.brackets import ALPHABET, all_monomials, fillings, leaves_of, text_of, with_leaves
from toldproducts.checks import check_rows_of, copied
from toldproducts.consequences import consequences, numbers_of
from toldproducts.errors import InvalidNumber, InvalidRow, NotLinear
from toldproducts.ratios import lowest, whole
from toldproducts.solving import places_in
from toldproducts.table_sayings import sayings_by
from toldproducts.terms import (
    check_term, check_terms, counts_in, expansion_of, is_many_linear, letters_in, letters_of,
)
from toldproducts.worths import breaking_rows, worth_over


def letters(term):
    """Return the text of the letters that stand in a term, ascending, each once."""
    check_term(term)
    return letters_in(term)


def worth(table, term, rows):
    """Return the row of a term with one row for each of its letters, in their order."""
    check_term(term)
    known = letters_in(term)
    if len(rows) != len(known):
        raise InvalidRow(copied(rows))
    check_rows_of(rows, table.size)
    entries, below = worth_over(table, term, {letter: whole(row) for letter, row in zip(known, rows)})
    return [lowest(entry, below) for entry in entries]


def expanded(term):
    """Return the expansion of a term."""
    check_term(term)
    return expansion_of(term)


def degrees(term):
    """Return the list of the degrees of a term in its letters."""
    check_term(term)
    leaves = [leaves_of(monomial) for _, monomial in expansion_of(term)]
    return [max([text.count(letter) for text in leaves], default=0) for letter in letters_in(term)]


def same_everywhere(one, other):
    """Return True if two terms give the same rows by every table."""
    check_terms([one, other])
    return expansion_of(one) == expansion_of(other)


def holds(table, term):
    """Return True if a saying holds by a table."""
    check_term(term)
    return breaking_rows(table, term) is None


def first_breaking(table, term):
    """Return the first list of rows by which a saying does not give noughts, None if there is none."""
    check_term(term)
    return breaking_rows(table, term)


def is_linear(term):
    """Return True if each monomial of the expansion has each of its letters just once."""
    check_term(term)
    return is_many_linear(expansion_of(term))


def linear(term):
    """Return the list of the expansions of the many-linear terms of a term."""
    check_term(term)
    known = letters_in(term)
    parted = {}
    for number, monomial in expansion_of(term):
        parted.setdefault(counts_in(monomial, known), []).append((number, monomial))
    return [_linear_part(parted[counts], dict(zip(known, _pools(counts)))) for counts in sorted(parted)]


def monomials(many):
    """Return the list of all monomials with each of the first so many letters just once."""
    _check_many(many)
    return all_monomials(many)


def sayings_of(table, many):
    """Return the form of the lists of numbers with which these monomials add up to a saying that holds."""
    _check_many(many)
    return sayings_by(table, many)


def owed(terms, many):
    """Return the form of the lists of numbers of all sayings that hold by every table by which told ones hold."""
    check_terms(terms)
    _check_linear(terms)
    _check_many(many)
    return consequences([expansion_of(term) for term in terms], many)


def follows(term, terms):
    """Return True if a many-linear saying holds by every table by which told ones hold."""
    check_terms([term, *terms])
    _check_linear([term, *terms])
    expansion = expansion_of(term)
    if not expansion:
        return True
    many = len(letters_of(expansion))
    form = consequences([expansion_of(other) for other in terms], many)
    return places_in(form, numbers_of(expansion, all_monomials(many))) is not None


def _check_many(many):
    if many < 1 or many > 4:
        raise InvalidNumber(many)


def _check_linear(terms):
    """Raise NotLinear for the first term that is not many-linear in the first letters from a on."""
    for term in terms:
        expansion = expansion_of(term)
        if not is_many_linear(expansion) or not ALPHABET.startswith(letters_of(expansion)):
            raise NotLinear(term)


def _pools(counts):
    """Return for each count the text of so many new letters, from a on."""
    pools, begun = [], 0
    for count in counts:
        pools.append(ALPHABET[begun:begun + count])
        begun = begun + count
    return pools


def _linear_part(part, pools):
    """Return the expansion of a part in which each place of a letter has one of its new letters, in all orders."""
    found = [
        (number, with_leaves(monomial, leaves))
        for number, monomial in part
        for leaves in fillings(leaves_of(monomial), pools)
    ]
    return sorted(found, key=lambda pair: text_of(pair[1]))
