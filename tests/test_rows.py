import unittest
from fractions import Fraction

from tests.helpers import Checks, any_number, any_row, any_rows, fractions_of, n, plain_form, plain_sum, row, rows, some
from toldproducts.rows import (
    combined, is_within, joined, met, noughts, number, places, relations, span, sum_of, times, told_by, unit,
)

GREAT = 10 ** 400 + 69


def spans_for(seed, size, most):
    """Two random forms of a size that often have something in common."""
    source = some(seed)
    shared = any_rows(source, source.randint(0, 2), size, most)
    one = shared + any_rows(source, source.randint(0, size - 1), size, most)
    other = shared + any_rows(source, source.randint(0, size - 1), size, most)
    return plain_form(one), plain_form(other)


class Numbers(Checks, unittest.TestCase):
    def test_number(self):
        for above, below, expected in [
            (1, 2, (1, 2)), (2, 4, (1, 2)), (2, -4, (-1, 2)), (-2, -4, (1, 2)), (0, 7, (0, 1)), (0, -7, (0, 1)),
            (9999, 1, (9999, 1)), (-1, 2, (-1, 2)), (6, 3, (2, 1)), (2 * GREAT, 6 * GREAT, (1, 3)),
        ]:
            self.assert_row_like([number(above, below)], [expected])
        self.assertEqual(number(above=3, below=-6), (-1, 2))

    def test_unit_and_noughts(self):
        self.assert_row_like(unit(1, 0), [(1, 1)])
        self.assert_row_like(unit(3, 1), [(0, 1), (1, 1), (0, 1)])
        self.assert_row_like(noughts(1), [(0, 1)])
        self.assert_row_like(noughts(6), [(0, 1)] * 6)
        self.assertEqual(unit(size=40, place=39), [(0, 1)] * 39 + [(1, 1)])
        self.assertEqual(noughts(size=40), [(0, 1)] * 40)
        self.assert_new([unit(2, 0), unit(2, 0), noughts(2), noughts(2)])

    def test_sum_of(self):
        self.assert_row_like(sum_of(row("1/2", 1, -3), row("1/3", -1, "1/4")), row("5/6", 0, "-11/4"))
        self.assertEqual(sum_of(noughts(2), row(1, "-1/2")), [(1, 1), (-1, 2)])
        source = some(1)
        for size in (1, 6, 40):
            one, other = any_row(source, size, 9999, 9999), any_row(source, size, 9999, 9999)
            expected = row(*[a + b for a, b in zip(fractions_of(one), fractions_of(other))])
            self.assertEqual(self.check_call(sum_of, {"one": one, "other": other}), expected)
        self.assertEqual(sum_of([n(1, GREAT)], [n(-1, GREAT)]), [(0, 1)])

    def test_times(self):
        self.assert_row_like(times((-1, 2), row(4, "2/3", 0)), row(-2, "-1/3", 0))
        self.assert_row_like(times((0, 1), row(4, "2/3", 0)), row(0, 0, 0))
        self.assertEqual(times(n(GREAT, 3), [n(3, GREAT)]), [(1, 1)])
        handed = {"number": (2, 3), "row": row(3, "1/2")}
        self.assertEqual(self.check_call(times, handed), row(2, "1/3"))

    def test_combined(self):
        self.assertEqual(combined([], [], 1), [(0, 1)])
        self.assertEqual(combined([], [], 3), noughts(3))
        self.assertEqual(combined(row(2, "1/2"), rows([1, 0], [2, 4]), 2), row(3, 2))
        self.assertEqual(combined(row(0, 1, -1), rows([5, "1/3"], [1, 1], [1, 1]), 2), row(0, 0))
        source = some(2)
        for many, size in [(1, 1), (3, 6), (40, 40), (40, 1)]:
            numbers, lists = any_row(source, many, 9999, 9999), any_rows(source, many, size, 9999, 9999)
            expected = plain_sum(numbers, lists, size)
            self.assertEqual(self.check_call(combined, {"numbers": numbers, "rows": lists, "size": size}), expected)


class Spans(Checks, unittest.TestCase):
    def test_span_of_little(self):
        self.assertEqual(span([], 1), [])
        self.assertEqual(span([], 40), [])
        self.assertEqual(span(rows([0, 0], [0, 0]), 2), [])
        self.assertEqual(span([row(-3)], 1), [row(1)])
        self.assertEqual(span(rows([0, -2, 1], [0, 4, -2]), 3), [row(0, 1, "-1/2")])
        self.assertEqual(span(rows([1, 2, 3], [4, 5, 6], [7, 8, 9]), 3), rows([1, 0, -1], [0, 1, 2]))
        self.assertEqual(span(rows([0, 0, 2], [0, 3, 1]), 3), rows([0, 1, 0], [0, 0, 1]))

    def test_span_against_plain_elimination(self):
        source = some(3)
        for _ in range(150):
            size, most, below = source.randint(1, 6), source.choice([1, 2, 9999]), source.choice([1, 3, 9999])
            lists = any_rows(source, source.randint(1, 8), size, most, below)
            told = self.check_call(span, {"rows": [list(entries) for entries in lists], "size": size})
            self.assertEqual(told, plain_form(lists))

    def test_span_of_rows_that_depend(self):
        source = some(4)
        for many, size, most in [(8, 6, 3), (12, 20, 9999), (40, 40, 2)]:
            first = any_rows(source, many // 2, size, most)
            later = [plain_sum(any_row(source, many // 2, 3), first, size) for _ in range(many // 2)]
            mixed = [entries for pair in zip(later, first) for entries in pair]
            self.assertEqual(span(mixed, size), plain_form(first))
            self.assertEqual(len(span(mixed, size)), many // 2)

    def test_span_of_forty(self):
        source = some(5)
        whole = any_rows(source, 40, 40, 9999, 9999)
        self.assertEqual(span(whole, 40), [unit(40, at) for at in range(40)])
        few = any_rows(source, 5, 40, 9999, 9999)
        self.assertEqual(span(few, 40), plain_form(few))
        self.assertEqual(span([any_row(source, 1) for _ in range(40)], 1), [row(1)])

    def test_span_of_great_numbers(self):
        lists = [[n(GREAT), n(1), n(1, GREAT)], [n(1), n(1, GREAT), n(2)]]
        self.assertEqual(span(lists, 3), plain_form(lists))
        self.assertEqual(span([[n(GREAT), n(GREAT + 1)]], 2), [[(1, 1), n(GREAT + 1, GREAT)]])

    def test_span_is_the_same_for_other_rows_of_it(self):
        source = some(6)
        for _ in range(30):
            lists = any_rows(source, 3, 5)
            form = span(lists, 5)
            others = [plain_sum(any_row(source, 3), lists, 5) for _ in range(6)]
            self.assertEqual(span(lists + others, 5), form)
            self.assertEqual(span(form, 5), form)
            self.assertEqual(span(lists[::-1], 5), form)

    def test_is_within_and_places(self):
        form = rows([1, 0, "-1/2"], [0, 1, 3])
        for entries, expected in [
            (row(0, 0, 0), row(0, 0)), (row(2, 1, 2), row(2, 1)), (row("-1/2", 0, "1/4"), row("-1/2", 0)),
            (row(2, 1, 1), None), (row(0, 0, 1), None),
        ]:
            self.assertEqual(self.check_call(places, {"span": [*map(list, form)], "row": list(entries)}), expected)
            self.assertIs(self.check_call(is_within, {"span": [*map(list, form)], "row": entries}), expected is not None)

    def test_places_in_the_empty_span(self):
        self.assertEqual(places([], noughts(4)), [])
        self.assertIs(places([], row(0, 1)), None)
        self.assertIs(is_within([], noughts(1)), True)
        self.assertIs(is_within([], row("-1/2")), False)

    def test_places_in_all_rows(self):
        for size in (1, 6, 40):
            whole = [unit(size, at) for at in range(size)]
            entries = any_row(some(size), size, 9999, 9999)
            self.assertEqual(places(whole, entries), entries)
            self.assertIs(is_within(whole, entries), True)

    def test_places_of_great_numbers(self):
        form = [[n(1), n(0), n(1, GREAT)], [n(0), n(1), n(GREAT)]]
        numbers = [n(GREAT), n(3, GREAT)]
        self.assertEqual(places(form, plain_sum(numbers, form, 3)), numbers)
        self.assertIs(is_within(form, [n(GREAT), n(3, GREAT), n(GREAT)]), False)

    def test_joined_and_met_of_little(self):
        whole, first = rows([1, 0], [0, 1]), rows([1, 0])
        for one, other, both, shared in [
            ([], [], [], []), ([], first, first, []), (first, [], first, []), (first, whole, whole, first),
            (whole, first, whole, first), (whole, whole, whole, whole), (first, rows([0, 1]), whole, []),
            (first, first, first, first),
        ]:
            for function, expected in [(joined, both), (met, shared)]:
                handed = {"one": [*map(list, one)], "other": [*map(list, other)], "size": 2}
                self.assertEqual(self.check_call(function, handed), expected)
        self.assertEqual(met(rows([1, 0, 1], [0, 1, 0]), rows([1, 1, 1]), 3), rows([1, 1, 1]))

    def test_joined_and_met_against_plain_elimination(self):
        for seed in range(80):
            size = seed % 5 + 2
            one, other = spans_for(seed, size, 3)
            both = joined(one, other, size)
            shared = met(one, other, size)
            self.assertEqual(both, plain_form(one + other))
            self.assertEqual(len(shared), len(one) + len(other) - len(both))
            self.assertEqual(shared, plain_form(shared))
            self.assertEqual(plain_form(one + shared), one)
            self.assertEqual(plain_form(other + shared), other)
            self.assertEqual(met(other, one, size), shared)

    def test_joined_and_met_of_long_forms(self):
        source = some(7)
        one, other = [span(any_rows(source, 9, 24, 9999, 9999), 24) for _ in range(2)]
        both = joined(one, other, 24)
        self.assertEqual(len(both), 18)
        self.assertTrue(all(is_within(both, entries) for entries in one + other))
        self.assertEqual(met(one, both, 24), one)
        self.assertEqual(met(one, other, 24), [])


class Shares(Checks, unittest.TestCase):
    def test_told_by_leaves_out_what_those_ahead_tell(self):
        lists = rows([0, 0, 0], [1, 1, 0], [2, 2, 0], [0, 1, 1], [1, 2, 1], [0, 0, 5])
        self.assertEqual(told_by(row(3, 4, 1), lists), row(0, 3, 0, 1, 0, 0))
        self.assertEqual(told_by(row(0, 0, "-1/2"), lists), row(0, 0, 0, 0, 0, "-1/10"))
        self.assertEqual(told_by(row(0, 0, 0), lists), row(0, 0, 0, 0, 0, 0))
        self.assertIs(told_by(row(0, 0, 1), lists[:5]), None)

    def test_told_by_no_rows(self):
        self.assertEqual(told_by(noughts(3), []), [])
        self.assertIs(told_by(row(0, 1), []), None)

    def test_told_by_against_plain_elimination(self):
        source = some(8)
        for _ in range(80):
            size, many = source.randint(1, 6), source.randint(1, 8)
            lists = any_rows(source, many, size, source.choice([1, 9999]), 3)
            wish = source.choice([any_row(source, size), plain_sum(any_row(source, many), lists, size)])
            told = self.check_call(told_by, {"row": list(wish), "rows": [*map(list, lists)]})
            if told is None:
                self.assertGreater(len(plain_form(lists + [wish])), len(plain_form(lists)))
                continue
            self.assertEqual(plain_sum(told, lists, size), wish)
            for at in range(many):
                if len(plain_form(lists[:at + 1])) == len(plain_form(lists[:at])):
                    self.assertEqual(told[at], (0, 1))

    def test_told_by_forty(self):
        source = some(9)
        lists = any_rows(source, 40, 40, 9999)
        numbers = any_row(source, 40, 9999, 99)
        wish = plain_sum(numbers, lists, 40)
        self.assertEqual(told_by(wish, lists), numbers)
        self.assertEqual(plain_sum(told_by(unit(40, 3), lists), lists, 40), unit(40, 3))

    def test_relations_of_little(self):
        self.assertEqual(relations([]), [])
        self.assertEqual(relations([noughts(3)]), [row(1)])
        self.assertEqual(relations([row(0, 2)]), [])
        self.assertEqual(relations([noughts(1)] * 3), rows([1, 0, 0], [0, 1, 0], [0, 0, 1]))
        self.assertEqual(relations(rows([1, 0], [0, 1], [1, 1])), rows([1, 1, -1]))
        self.assertEqual(relations(rows([1, 0], [2, 0], [0, 1], [0, 3])), rows([1, "-1/2", 0, 0], [0, 0, 1, "-1/3"]))

    def test_relations_against_plain_elimination(self):
        source = some(10)
        for _ in range(80):
            size, many = source.randint(1, 6), source.randint(1, 8)
            lists = any_rows(source, many, size, source.choice([1, 9999]), 3)
            told = self.check_call(relations, {"rows": [*map(list, lists)]})
            self.assertEqual(told, plain_form(told))
            self.assertEqual(len(told), many - len(plain_form(lists)))
            for numbers in told:
                self.assertEqual(plain_sum(numbers, lists, size), noughts(size))

    def test_relations_of_forty(self):
        source = some(11)
        lists = any_rows(source, 40, 39, 9999)
        told = relations(lists)
        self.assertEqual([len(told), told[0][0]], [1, (1, 1)])
        self.assertEqual(plain_sum(told[0], lists, 39), noughts(39))
        self.assertEqual(len(relations(any_rows(source, 40, 1))), 39)
        self.assertEqual(relations(any_rows(source, 40, 40, 9999, 9999)), [])

    def test_what_is_told_may_be_passed_on(self):
        source = some(12)
        form = span(any_rows(source, 12, 20, 9999, 9999), 20)
        self.assertGreater(max(number[1] for entries in form for number in entries), 10 ** 300)
        self.assertEqual(span(form, 20), form)
        self.assertEqual(joined(form, [], 20), form)
        self.assertEqual(met(form, form, 20), form)
        self.assertEqual(relations(form), [])
        self.assertIs(is_within(form, sum_of(form[0], times(any_number(source), form[3]))), True)
        self.assertEqual(told_by(form[2], form), unit(12, 2))
        self.assertEqual(Fraction(*times(form[0][15], form[0])[15]), Fraction(*form[0][15]) ** 2)
