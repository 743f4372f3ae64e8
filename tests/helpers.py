"""What several tests use: numbers by the library's fractions, elimination in the plainest way, and checks of lists."""

import copy
import random
from fractions import Fraction

from toldproducts.tables import Table


def n(above, below=1):
    """The number of a fraction."""
    worth = Fraction(above, below)
    return (worth.numerator, worth.denominator)


def row(*entries):
    """A row of integers, fractions or texts like "1/2"."""
    return [n(Fraction(entry)) for entry in entries]


def rows(*lists):
    return [row(*entries) for entries in lists]


def fractions_of(numbers):
    return [Fraction(*number) for number in numbers]


def plain_form(lists):
    """The form of the span of rows, by Gauss and Jordan over fractions."""
    left = [fractions_of(entries) for entries in lists]
    done = []
    for place in range(len(left[0]) if left else 0):
        lead = next((entries for entries in left if entries[place]), None)
        if lead is None:
            continue
        left.remove(lead)
        lead = [entry / lead[place] for entry in lead]
        left = [[a - entries[place] * b for a, b in zip(entries, lead)] for entries in left]
        done = [[a - entries[place] * b for a, b in zip(entries, lead)] for entries in done] + [lead]
    return [row(*entries) for entries in done]


def plain_sum(numbers, lists, size):
    """The sum of rows, each so many times."""
    return row(*[sum((Fraction(*number) * Fraction(*entries[at]) for number, entries in zip(numbers, lists)), Fraction(0))
                 for at in range(size)])


def plain_product(products, one, other):
    """The product of two rows by a table's products."""
    size = len(products)
    numbers = [n(Fraction(*a) * Fraction(*b)) for a in one for b in other]
    return plain_sum(numbers, [products[i][j] for i in range(size) for j in range(size)], size)


def some(seed):
    return random.Random(seed)


def any_number(source, most=9, below=1):
    return n(source.randint(-most, most), source.randint(1, below))


def any_row(source, size, most=9, below=1):
    return [any_number(source, most, below) for _ in range(size)]


def any_rows(source, many, size, most=9, below=1):
    return [any_row(source, size, most, below) for _ in range(many)]


def any_products(source, size, most=9, below=1):
    return [any_rows(source, size, size, most, below) for _ in range(size)]


def lists_within(thing):
    """All lists that stand in a value, itself included, also within tuples; each as often as it stands there."""
    if isinstance(thing, (list, tuple)):
        found = [thing] if isinstance(thing, list) else []
        for part in thing:
            found += lists_within(part)
        return found
    return []


def spoil(thing):
    """Change every list within a value."""
    for part in lists_within(thing):
        part.clear()


class Checks:
    """Assertions for tests."""

    def assert_new(self, answer, *handed):
        """Each list of an answer stands in one place alone and is none of those handed in."""
        ids = [id(part) for part in lists_within(answer)]
        self.assertEqual(len(ids), len(set(ids)))
        self.assertFalse(set(ids) & {id(part) for part in lists_within(list(handed))})

    def assert_row_like(self, answer, expected):
        self.assertEqual(answer, expected)
        for number in answer:
            self.assertIs(type(number), tuple)
            self.assertEqual([type(part) for part in number], [int, int])

    def assert_raises(self, kind, value, function, *handed):
        """The call raises just this class, with a new list or the same value, and changes nothing."""
        before = copy.deepcopy(handed)
        with self.assertRaises(kind) as caught:
            function(*handed)
        self.assertIs(type(caught.exception), kind)
        self.assertEqual(caught.exception.value, value)
        self.assertIs(type(caught.exception.value), type(value))
        self.assertEqual(handed, before)
        self.assert_new(caught.exception.value, *handed)
        spoil(caught.exception.value)
        self.assertEqual(handed, before)

    def check_call(self, function, handed):
        """By position and by name alike; nothing handed in is changed or kept, and what is told is new each time.

        Changing what was told, or what was handed in, changes neither a table nor a later answer.
        """
        before = copy.deepcopy(handed)
        answer = function(*handed.values())
        kept = copy.deepcopy(answer)
        self.assertEqual(handed, before)
        self.assert_new(answer, *handed.values())
        spoil(answer)
        self.assertEqual(handed, before)
        again = function(**handed)
        self.assertEqual(again, kept)
        self.assert_new(again, answer, *handed.values())
        for part in handed.values():
            spoil(part)
        self.assertEqual(again, kept)
        for name, part in handed.items():
            if isinstance(part, Table):
                self.assertEqual(part, before[name])
                before[name] = part
        self.assertEqual(function(**copy.deepcopy(before)), kept)
        return kept
