import unittest

from tests.helpers import Checks, n, row, rows
from tests.test_parts_errors import BAD, NO_FORMS, WORSE, WRONG
from toldproducts.chains import down, first_alive, span_by, steps_down, wordings
from toldproducts.errors import InvalidKind, InvalidNumber, InvalidSpan, InvalidTerm, NotWithin
from toldproducts.tables import Table

TURN = Table([rows([1, 0], [0, 1]), rows([0, 1], [-1, 0])])
WHOLE, NO_PART = rows([1, 0], [0, 1]), rows([0, 1])
SIX = ((("x", "x"), "x"), (("x", "x"), "x"))
SEVEN = (SIX, "x")
# Each function with a span at a place, and good or wrong things behind it.
WITH_SPAN = [(down, "square"), (steps_down, "both"), (first_alive, 2), (span_by, ("x", "x"))]
WRONG_BEHIND = [(down, "round"), (steps_down, ""), (first_alive, 0), (span_by, "y")]


class Numbers(Checks, unittest.TestCase):
    def test_every_wrong_tuple_in_every_function(self):
        for wrong in WRONG:
            for function, behind in WITH_SPAN + WRONG_BEHIND:
                self.assert_raises(InvalidNumber, wrong, function, TURN, [row(1, 0), [n(0), wrong]], behind)
                self.assert_raises(InvalidNumber, wrong, function, TURN, [[wrong]], behind)

    def test_the_first_of_several_and_ahead_of_all_else(self):
        for function, behind in WITH_SPAN + WRONG_BEHIND:
            self.assert_raises(InvalidNumber, BAD, function, TURN, [[n(1), BAD], [WORSE, n(1)]], behind)
            self.assert_raises(InvalidNumber, BAD, function, TURN, [row(1), row(2, 0, 0), [BAD]], behind)


class Spans(Checks, unittest.TestCase):
    def test_what_is_no_form(self):
        for form in NO_FORMS:
            for function, behind in WITH_SPAN + WRONG_BEHIND:
                self.assert_raises(InvalidSpan, form, function, TURN, form, behind)

    def test_rows_at_several_places_stand_apart_in_the_error(self):
        twice = row(1, 0)
        self.assert_raises(InvalidSpan, rows([1, 0], [1, 0]), down, TURN, [twice, twice], "left")
        self.assert_raises(InvalidSpan, rows([1, 0], [1, 0]), span_by, TURN, [twice, twice], "x")

    def test_no_part(self):
        still = Table([rows([0, 1], [0, 0]), rows([0, 0], [0, 0])])
        for function in (down, steps_down):
            for kind in ("square", "right", "left", "both", "none", "SQUARE"):
                self.assert_raises(NotWithin, NO_PART, function, TURN, NO_PART, kind)
                self.assert_raises(NotWithin, rows([1, 1]), function, still, rows([1, 1]), kind)
        # Products of a span that is no part may be asked for.
        self.assertEqual(span_by(TURN, NO_PART, ("x", "x")), rows([1, 0]))
        self.assertEqual(first_alive(TURN, NO_PART, 2), ("x", "x"))


class Kinds(Checks, unittest.TestCase):
    def test_no_kind(self):
        for function in (down, steps_down):
            for kind in ("", "Square", "squares", "square ", "up", "right left", "bot"):
                for span in (WHOLE, [], rows([1, 0])):
                    self.assert_raises(InvalidKind, kind, function, TURN, span, kind)


class Counts(Checks, unittest.TestCase):
    def test_from_1_to_6(self):
        for many in (0, -1, -6, 7, 8, 100):
            self.assert_raises(InvalidNumber, many, wordings, many)
            for span in (WHOLE, [], NO_PART):
                self.assert_raises(InvalidNumber, many, first_alive, TURN, span, many)
        self.assertEqual(len(wordings(6)), 42)
        self.assertEqual(first_alive(TURN, WHOLE, 6), wordings(6)[0])


class Terms(Checks, unittest.TestCase):
    def test_other_letters(self):
        for wording in ("y", "a", "X", "xx", "", ("x", "y"), ("y", "x"), ("x", ("x", ("z", "x"))), (("b", "x"), "x"),
                        ("x", ("xx", "x"))):
            for span in (WHOLE, [], NO_PART):
                self.assert_raises(InvalidTerm, wording, span_by, TURN, span, wording)

    def test_more_than_6_places(self):
        for wording in (SEVEN, ("x", SIX), (("x", "x"), SIX), (SIX, SIX), (SIX, "y"), ((SIX, "x"), "x")):
            self.assert_raises(InvalidTerm, wording, span_by, TURN, WHOLE, wording)
            self.assert_raises(InvalidTerm, wording, span_by, TURN, [], wording)
        self.assertEqual(span_by(TURN, WHOLE, SIX), WHOLE)

    def test_by_name(self):
        for function, handed, kind, value in [
            (down, {"kind": "a", "span": WHOLE, "table": TURN}, InvalidKind, "a"),
            (steps_down, {"kind": "a", "span": NO_PART, "table": TURN}, NotWithin, NO_PART),
            (first_alive, {"many": 7, "span": WHOLE, "table": TURN}, InvalidNumber, 7),
            (wordings, {"many": 0}, InvalidNumber, 0),
            (span_by, {"wording": ("x", "q"), "span": WHOLE, "table": TURN}, InvalidTerm, ("x", "q")),
            (span_by, {"wording": "q", "span": rows([2, 0]), "table": TURN}, InvalidSpan, rows([2, 0])),
        ]:
            with self.assertRaises(kind) as caught:
                function(**handed)
            self.assertEqual(caught.exception.value, value)

    def test_an_error_changes_no_table(self):
        before = TURN.products
        for function, handed in [(down, (TURN, NO_PART, "left")), (span_by, (TURN, WHOLE, "y")), (first_alive, (TURN, [], 9))]:
            with self.assertRaises(ValueError):
                function(*handed)
        self.assertEqual(TURN.products, before)
