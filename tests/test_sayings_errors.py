import unittest

from tests.helpers import Checks, n, row, rows
from tests.plain import A, B, C, D, EITHER, GROUPED, NOTHING, less, letter, plus, take, times
from toldproducts.errors import InvalidLetter, InvalidNumber, InvalidRow, NotLinear
from toldproducts.sayings import (
    degrees, expanded, first_breaking, follows, holds, is_linear, letters, linear, monomials, owed, same_everywhere,
    sayings_of, worth,
)
from toldproducts.tables import Table

WRONG = [(2, 4), (1, 0), (1, -1), (-2, -3), (0, 2), (0, 0), (-3, 9)]
BAD, WORSE = (2, 4), (3, 6)
TURN = Table([rows([1, 0], [0, 1]), rows([0, 1], [-1, 0])])
SIGNS = ["A", "Z", "", "ab", "1", " ", "`", "{", "(", "-"]
STRANGE, STRANGER = letter("A"), letter("aa")


def many_times(number, one):
    return ("take", number, one)


# Each function with one term at a place, and good things at the others.
ONE_TERM = [
    (letters, lambda term: (term,)), (expanded, lambda term: (term,)), (degrees, lambda term: (term,)),
    (is_linear, lambda term: (term,)), (linear, lambda term: (term,)), (worth, lambda term: (TURN, term, [])),
    (holds, lambda term: (TURN, term)), (first_breaking, lambda term: (TURN, term)),
    (same_everywhere, lambda term: (term, A)), (same_everywhere, lambda term: (A, term)),
    (owed, lambda term: ([term], 2)), (owed, lambda term: ([EITHER, term], 2)), (follows, lambda term: (term, [EITHER])),
    (follows, lambda term: (EITHER, [term])), (follows, lambda term: (EITHER, [GROUPED, term])),
]


class Terms(Checks, unittest.TestCase):
    def check(self, kind, value, term):
        for function, handed in ONE_TERM:
            self.assert_raises(kind, value, function, *handed(term))

    def test_numbers_that_are_none(self):
        for wrong in WRONG:
            self.check(InvalidNumber, wrong, many_times(wrong, A))
        self.check(InvalidNumber, BAD, plus(times(A, B), take(3, times(many_times(BAD, C), D))))

    def test_letters_that_are_none(self):
        for sign in SIGNS:
            self.check(InvalidLetter, sign, letter(sign))
        self.check(InvalidLetter, "B", times(times(A, letter("B")), C))

    def test_outside_first(self):
        self.check(InvalidNumber, BAD, many_times(BAD, many_times(WORSE, A)))
        self.check(InvalidNumber, BAD, many_times(BAD, STRANGE))
        self.check(InvalidNumber, BAD, take(2, many_times(BAD, plus(STRANGE, many_times(WORSE, A)))))

    def test_the_first_part_wholly_ahead_of_the_other_one(self):
        for kind in ("plus", "times"):
            self.check(InvalidLetter, "A", (kind, STRANGE, many_times(BAD, A)))
            self.check(InvalidNumber, BAD, (kind, many_times(BAD, A), STRANGE))
            self.check(InvalidLetter, "A", (kind, times(A, plus(B, STRANGE)), many_times(BAD, STRANGER)))
            self.check(InvalidNumber, BAD, (kind, times(A, take(2, many_times(BAD, B))), many_times(WORSE, STRANGER)))
            self.check(InvalidLetter, "A", (kind, STRANGE, STRANGER))
            self.check(InvalidNumber, WORSE, (kind, A, many_times(WORSE, STRANGE)))

    def test_also_where_they_vanish(self):
        self.check(InvalidLetter, "A", take(0, STRANGE))
        self.check(InvalidNumber, BAD, take(0, many_times(BAD, A)))
        self.check(InvalidLetter, "A", times(NOTHING, STRANGE))
        self.check(InvalidNumber, BAD, times(less(A, A), many_times(BAD, NOTHING)))
        self.check(InvalidNumber, (0, 2), many_times((0, 2), NOTHING))
        self.check(InvalidLetter, "A", less(STRANGE, STRANGE))

    def test_deep_ones(self):
        term = STRANGE
        for _ in range(9):
            term = take(2, term)
        self.check(InvalidLetter, "A", term)
        self.check(InvalidNumber, BAD, plus(take(1, many_times(BAD, A)), term))

    def test_several_terms_one_behind_the_other(self):
        bad, strange = many_times(BAD, A), STRANGE
        self.assert_raises(InvalidNumber, BAD, same_everywhere, bad, strange)
        self.assert_raises(InvalidLetter, "A", same_everywhere, strange, bad)
        self.assert_raises(InvalidNumber, BAD, owed, [EITHER, bad, strange, many_times(WORSE, B)], 2)
        self.assert_raises(InvalidLetter, "A", owed, [EITHER, strange, STRANGER, bad], 2)
        self.assert_raises(InvalidNumber, BAD, follows, bad, [strange])
        self.assert_raises(InvalidLetter, "A", follows, strange, [bad, STRANGER])
        self.assert_raises(InvalidLetter, "A", follows, EITHER, [strange, bad])

    def test_by_name(self):
        for function, handed in [
            (letters, {"term": STRANGE}), (worth, {"table": TURN, "term": STRANGE, "rows": []}),
            (same_everywhere, {"one": STRANGE, "other": A}), (holds, {"table": TURN, "term": STRANGE}),
            (owed, {"terms": [STRANGE], "many": 2}), (follows, {"term": A, "terms": [STRANGE]}),
        ]:
            with self.assertRaises(InvalidLetter) as caught:
                function(**handed)
            self.assertEqual(caught.exception.value, "A")


class RowsOfWorth(Checks, unittest.TestCase):
    def test_as_many_as_letters(self):
        for term, wrong in [
            (EITHER, []), (EITHER, [row(1, 2)]), (EITHER, rows([1, 2], [3, 4], [5, 6])), (NOTHING, [row(1, 2)]),
            (take(0, A), []), (times(A, A), rows([1, 0], [1, 0])), (less(B, B), []),
        ]:
            self.assert_raises(InvalidRow, wrong, worth, TURN, term, wrong)

    def test_the_count_comes_ahead_of_numbers_and_sizes(self):
        for wrong in ([[BAD]], [[BAD, BAD]], [row(1)], [[]], [row(1), [BAD], row(1, 2)]):
            self.assert_raises(InvalidRow, wrong, worth, TURN, EITHER, wrong)

    def test_numbers_come_ahead_of_sizes(self):
        for wrong in WRONG:
            self.assert_raises(InvalidNumber, wrong, worth, TURN, EITHER, [row(1, 2), [n(0), wrong]])
        self.assert_raises(InvalidNumber, BAD, worth, TURN, EITHER, [row(1), [BAD, WORSE, n(1)]])
        self.assert_raises(InvalidNumber, BAD, worth, TURN, EITHER, [[BAD], [WORSE]])
        self.assert_raises(InvalidNumber, BAD, worth, TURN, take(0, A), [[n(1), BAD]])

    def test_sizes(self):
        for wrong in ([], row(1), row(1, 2, 3)):
            self.assert_raises(InvalidRow, wrong, worth, TURN, EITHER, [wrong, row(1, 2)])
            self.assert_raises(InvalidRow, wrong, worth, TURN, EITHER, [row(1, 2), wrong])
            self.assert_raises(InvalidRow, wrong, worth, TURN, EITHER, [wrong, row(9)])
            self.assert_raises(InvalidRow, wrong, worth, TURN, less(A, A), [wrong])

    def test_terms_come_ahead_of_rows(self):
        self.assert_raises(InvalidLetter, "A", worth, TURN, STRANGE, [[BAD], [WORSE], row(1)])
        self.assert_raises(InvalidNumber, WORSE, worth, TURN, many_times(WORSE, A), [])

    def test_an_error_that_holds_rows_is_new_at_each_place(self):
        twice = row(1, 2)
        self.assert_raises(InvalidRow, rows([1, 2], [1, 2], [1, 2]), worth, TURN, EITHER, [twice, twice, twice])


class TermsThatAreNotLinear(Checks, unittest.TestCase):
    UNLIKE = [
        times(A, A), plus(A, times(A, B)), plus(A, B), plus(times(A, B), times(A, C)), B, letter("z"), times(B, C),
        times(A, C), less(times(A, times(C, D)), times(times(D, A), C)), times(times(A, B), A), less(times(A, A), A),
        plus(times(times(A, B), C), times(A, B)), plus(B, times(A, NOTHING)),
    ]

    def test_each_of_owed_and_follows(self):
        for term in self.UNLIKE:
            self.assert_raises(NotLinear, term, owed, [term], 2)
            self.assert_raises(NotLinear, term, owed, [EITHER, NOTHING, term, times(B, B)], 4)
            self.assert_raises(NotLinear, term, follows, term, [EITHER])
            self.assert_raises(NotLinear, term, follows, EITHER, [GROUPED, term])

    def test_the_first_one(self):
        one, other = times(A, A), times(B, B)
        self.assert_raises(NotLinear, one, owed, [one, other], 2)
        self.assert_raises(NotLinear, one, follows, one, [other])
        self.assert_raises(NotLinear, other, follows, EITHER, [other, one])

    def test_behind_wrong_numbers_and_letters(self):
        self.assert_raises(InvalidNumber, BAD, owed, [times(A, A), many_times(BAD, A)], 9)
        self.assert_raises(InvalidLetter, "A", follows, times(A, A), [STRANGE])
        self.assert_raises(InvalidLetter, "A", owed, [B, STRANGE], 0)

    def test_ahead_of_the_count(self):
        self.assert_raises(NotLinear, B, owed, [B], 0)
        self.assert_raises(NotLinear, times(A, A), owed, [EITHER, times(A, A)], 5)

    def test_letters_that_vanish_do_not_count(self):
        for term in (plus(EITHER, take(0, times(D, D))), less(EITHER, times(NOTHING, letter("z"))), less(B, B)):
            self.assertEqual(len(owed([term], 3)), 0 if term == less(B, B) else 9)
            self.assertIs(follows(term, [EITHER]), True)


class Counts(Checks, unittest.TestCase):
    def test_from_1_to_4(self):
        for many in (-4, -1, 0, 5, 6, 100):
            self.assert_raises(InvalidNumber, many, monomials, many)
            self.assert_raises(InvalidNumber, many, sayings_of, TURN, many)
            self.assert_raises(InvalidNumber, many, owed, [EITHER], many)
            self.assert_raises(InvalidNumber, many, owed, [], many)
            with self.assertRaises(InvalidNumber) as caught:
                sayings_of(many=many, table=TURN)
            self.assertEqual(caught.exception.value, many)

    def test_an_error_changes_no_table(self):
        before = TURN.products
        for function, handed in [(worth, (TURN, A, [])), (holds, (TURN, STRANGE)), (sayings_of, (TURN, 7))]:
            with self.assertRaises(ValueError):
                function(*handed)
        self.assertEqual(TURN.products, before)
