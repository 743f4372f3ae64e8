import unittest

from tests.helpers import any_rows, n, plain_form, plain_sum, row, some
from toldproducts.elimination import eliminated, form_of, shortened, stepped_down, stepped_up
from toldproducts.guesses import PRIME, leads_over_prime, rebuilt_form, tells
from toldproducts.ratios import whole
from toldproducts.rows import relations, span, told_by


def whole_rows(lists):
    return [whole(entries)[0] for entries in lists]


def guessed_form(wholes, size):
    form = rebuilt_form(leads_over_prime(wholes, size))
    return form if form is not None and tells(form, wholes, size) else None


class Ways(unittest.TestCase):
    def test_both_ways_tell_the_same(self):
        source = some(1)
        for _ in range(100):
            size, many = source.randint(1, 8), source.randint(1, 8)
            lists = any_rows(source, many, size, source.choice([1, 5]), 2)
            lists.append(plain_sum([n(2)] * many, lists, size))
            wholes = [entries for entries in whole_rows(lists) if any(entries)]
            expected = plain_form(lists)
            self.assertEqual(eliminated(wholes, size), expected)
            self.assertIn(guessed_form(wholes, size), (expected, None))

    def test_a_free_column_ahead_of_a_later_lead(self):
        for lists in ([[1, 2, 3], [1, 2, 5]], [[0, 1, 4, 0, 1], [0, 2, 8, 0, 3]], [[2, 2, 2], [2, 2, 2], [1, 1, 2]]):
            leads = stepped_down(lists, len(lists[0]))
            self.assertEqual(stepped_up(leads, len(lists[0])), plain_form([row(*entries) for entries in lists]))

    def test_no_rows(self):
        self.assertEqual(guessed_form([], 3), [])
        self.assertEqual(stepped_up(stepped_down([], 3), 3), [])
        self.assertEqual(form_of([row(0, 0)], 2), [])

    def test_short_numbers_are_guessed_and_long_ones_are_not(self):
        self.assertEqual(guessed_form([[3, 1, -2]], 3), [row(1, "1/3", "-2/3")])
        self.assertIs(guessed_form([[3 ** 60, 2 ** 90, 1]], 3), None)

    def test_leads_tell_the_rows_that_they_came_from(self):
        lists = [[1, 2, 3], [2, 4, 6], [0, 0, 0], [1, 2, 4], [5, 10, 1]]
        leads = leads_over_prime(lists, 3)
        self.assertEqual([(place, number) for place, _, number in leads], [(0, 0), (2, 3)])
        self.assertEqual([entries for _, entries, _ in leads], [[1, 2, 0], [0, 0, 1]])

    def test_tells(self):
        form = [row(1, "1/2", 0), row(0, 0, 1)]
        self.assertTrue(tells(form, [], 3))
        self.assertTrue(tells(form, [[2, 1, 7], [0, 0, -1]], 3))
        self.assertFalse(tells(form, [[2, 1, 7], [2, 0, 0]], 3))
        self.assertFalse(tells([], [[0, 1]], 2))

    def test_long_numbers_of_many_rows(self):
        source = some(3)
        for rank, size in [(1, 3), (2, 4), (3, 5), (5, 5)]:
            basis = [[n(source.randint(-2 ** 90, 2 ** 90), source.randint(1, 2 ** 40)) for _ in range(size)]
                     for _ in range(rank)]
            lists = [plain_sum([n(source.randint(-5, 5)) for _ in basis], basis, size) for _ in range(6)] + basis
            self.assertEqual(form_of(lists, size), plain_form(lists))

    def test_shortened(self):
        for entries, expected in [([], []), ([0, 0], [0, 0]), ([-4, 6, 0], [-2, 3, 0]), ([5], [1]), ([3, 7], [3, 7])]:
            self.assertEqual(shortened(entries), expected)


class GuessesThatWouldBeWrong(unittest.TestCase):
    """Rows that over the prime look like others."""

    def test_a_place_that_seems_to_be_nought(self):
        self.assertEqual(span([[n(PRIME), n(1)]], 2), [[n(1), n(1, PRIME)]])
        self.assertEqual(span([[n(1), n(PRIME)]], 2), [[n(1), n(PRIME)]])
        self.assertEqual(span([[n(PRIME), n(1)], [n(0), n(1)]], 2), [row(1, 0), row(0, 1)])

    def test_numbers_that_seem_to_be_short(self):
        self.assertEqual(span([[n(1), n(PRIME + 3), n(2)]], 3), [[n(1), n(PRIME + 3), n(2)]])
        self.assertEqual(span([[n(2), n(PRIME - 1), n(2 * PRIME)]], 3), [[n(1), n((PRIME - 1) // 2), n(PRIME)]])

    def test_a_rank_that_seems_to_be_less(self):
        lists = [row(1, 1, 1), [n(1), n(PRIME + 1), n(1)]]
        self.assertEqual(span(lists, 3), [row(1, 0, 1), row(0, 1, 0)])
        self.assertEqual(relations([[n(1)], [n(PRIME)]]), [[n(1), n(-1, PRIME)]])
        self.assertEqual(relations([row(1, 1), [n(1), n(PRIME + 1)]]), [])
        self.assertEqual(told_by(row(0, 1), [row(1, 1), [n(1), n(PRIME + 1)]]), [n(-1, PRIME), n(1, PRIME)])
        self.assertIs(told_by([n(1), n(PRIME)], [row(1, 0)]), None)

    def test_a_rank_that_seems_to_be_less_among_long_numbers(self):
        long = [n(3 ** 60), n(2 ** 90), n(1)]
        other = [n(3 ** 60), n(2 ** 90), n(PRIME + 1)]
        self.assertEqual(span([long, other], 3), plain_form([long, other]))
        self.assertEqual(span([other, long, long], 3), plain_form([long, other]))

    def test_a_first_place_that_seems_to_be_another(self):
        lists = [[n(PRIME), n(3 ** 60), n(2 ** 90)], [n(0), n(1), n(5)]]
        for left in (lists[:1], lists, lists[::-1]):
            self.assertEqual(span(left, 3), plain_form(left))
