"""What follows from many-linear sayings, for tables of whatever size."""

from itertools import permutations

from toldproducts.brackets import ALPHABET, all_monomials, text_of, with_images
from toldproducts.elimination import form_of
from toldproducts.ratios import NOUGHT
from toldproducts.terms import letters_of


def consequences(expansions, many):
    """Return the form of the lists of numbers, by `all_monomials`, of all sayings that follow from expansions."""
    form, monomials = [], []
    for count in range(1, many + 1):
        elder = [_expansion(numbers, monomials) for numbers in form]
        monomials = all_monomials(count)
        told = [expansion for expansion in expansions if len(letters_of(expansion)) == count]
        sayings = _in_all_orders(told, ALPHABET[:count]) + _one_letter_more(elder, ALPHABET[:count])
        form = form_of([numbers_of(expansion, monomials) for expansion in sayings], len(monomials))
    return form


def numbers_of(expansion, monomials):
    """Return the list of numbers, one for each of some monomials, of an expansion."""
    known = {text_of(monomial): number for number, monomial in expansion}
    return [known.get(text_of(monomial), NOUGHT) for monomial in monomials]


def _expansion(numbers, monomials):
    return [(number, monomial) for number, monomial in zip(numbers, monomials) if number != NOUGHT]


def _in_all_orders(expansions, letters):
    """Return many-linear expansions with their letters exchanged in all ways."""
    images = [dict(zip(letters, order)) for order in permutations(letters)]
    return [_with_letters(expansion, image) for expansion in expansions for image in images]


def _one_letter_more(expansions, letters):
    """Return what follows with the last one of some letters from expansions in the ones before it.

    These span all that follows with the ones before it, so they hold each saying in all orders of these letters.
    It is enough then to let the last letter change places with each one.
    """
    elder, last = letters[:-1], letters[-1]
    still = {letter: letter for letter in letters}
    found = []
    for expansion in expansions:
        found.append([(number, (monomial, last)) for number, monomial in expansion])
        found.append([(number, (last, monomial)) for number, monomial in expansion])
        found.extend([_with_letters(expansion, {**still, letter: (letter, last)}) for letter in elder])
    swaps = [{**still, letter: last, last: letter} for letter in letters]
    return [_with_letters(expansion, swap) for expansion in found for swap in swaps]


def _with_letters(expansion, images):
    return [(number, with_images(monomial, images)) for number, monomial in expansion]
