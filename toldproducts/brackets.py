"""Monomials: letters, and tuples of two monomials."""

from itertools import permutations

ALPHABET = "abcdefghijklmnopqrstuvwxyz"


def text_of(monomial):
    """Return the text of a monomial."""
    if isinstance(monomial, str):
        return monomial
    return f"({text_of(monomial[0])}{text_of(monomial[1])})"


def leaves_of(monomial):
    """Return the text of the letters of a monomial, as they stand in it."""
    if isinstance(monomial, str):
        return monomial
    return leaves_of(monomial[0]) + leaves_of(monomial[1])


def with_leaves(monomial, leaves):
    """Return the monomial that is bracketed alike, with other letters at its places."""
    if isinstance(monomial, str):
        return leaves
    many = len(leaves_of(monomial[0]))
    return (with_leaves(monomial[0], leaves[:many]), with_leaves(monomial[1], leaves[many:]))


def with_images(monomial, images):
    """Return the monomial with a monomial in the place of each letter."""
    if isinstance(monomial, str):
        return images[monomial]
    return (with_images(monomial[0], images), with_images(monomial[1], images))


def bracketed(leaves):
    """Return the list of all monomials with these letters in this order."""
    if len(leaves) == 1:
        return [leaves]
    return [
        (one, other)
        for at in range(1, len(leaves))
        for one in bracketed(leaves[:at])
        for other in bracketed(leaves[at:])
    ]


def all_monomials(many):
    """Return the list, by their texts, of all monomials with each of the first so many letters just once."""
    found = []
    for order in permutations(ALPHABET[:many]):
        found.extend(bracketed("".join(order)))
    return sorted(found, key=text_of)


def fillings(leaves, pools):
    """Return all texts in which the places of each letter of a text have the letters of its pool, each once."""
    if not leaves:
        return [""]
    texts = []
    pool = pools[leaves[0]]
    for at, letter in enumerate(pool):
        rest = {**pools, leaves[0]: pool[:at] + pool[at + 1:]}
        texts.extend([letter + behind for behind in fillings(leaves[1:], rest)])
    return texts
