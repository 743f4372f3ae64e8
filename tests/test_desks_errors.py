import unittest

from tests.helpers import Checks, n, row, rows, spoil
from tests.plain import A, letter, plus, take
from tests.test_desks import all_of
from tests.test_parts_errors import BAD, WORSE, WRONG
from toldproducts.desks import Desk
from toldproducts.errors import (
    DoubleName, InvalidLetter, InvalidName, InvalidNumber, InvalidRow, InvalidUnit, NothingToUndo, UnknownName, Unreadable,
    WrongKind,
)
from toldproducts.tables import Table

NO_NAMES = ["", "A", "aB", "ninechars", "abcdefghi", "a1", "1", "a b", " a", "a ", "a_b", "a-b", ".", "a.b", "main!", "{", "`"]
ROW_DEEDS = [("times", "a", "b"), ("plus", "a", "b"), ("scaled", "a", n(2)), ("power", "a", 2), ("turned", "a", 2)]
SPAN_DEEDS = [("part", ["a", "b"]), ("sided", ["a", "b"]), ("by", "s", "t"), ("met", "s", "t")]


class DeskChecks(Checks):
    def setUp(self):
        self.desk = Desk(Table([rows([1, 0], [0, 1]), rows([1, 0], [0, 1])]))
        self.desk.put("a", row(1, 2))
        self.desk.put("b", row(3, 4))
        self.desk.hold("s", ("all",))
        self.desk.hold("t", ("part", ["a"]))
        self.desk.branch("side")

    def refused(self, kind, value, word, *handed, **named):
        """The call raises just this error, with a new list or the same value, and changes nothing."""
        before = all_of(self.desk)
        with self.assertRaises(kind) as caught:
            getattr(self.desk, word)(*handed, **named)
        self.assertIs(type(caught.exception), kind)
        self.assertEqual(caught.exception.value, value)
        self.assert_new(caught.exception.value, *handed)
        spoil(caught.exception.value)
        self.assertEqual(all_of(self.desk), before)


class Names(DeskChecks, unittest.TestCase):
    def test_no_names_come_ahead_of_all_else(self):
        for name in NO_NAMES:
            self.refused(InvalidName, name, "put", name, row(1, 2))
            self.refused(InvalidName, name, "put", name, [BAD])
            self.refused(InvalidName, name, "put", name, [])
            self.refused(InvalidName, name, "branch", name)
            for deed in ROW_DEEDS + [("times", "q", "s"), ("power", "s", 0), ("unit", 9), ("scaled", "q", BAD)]:
                self.refused(InvalidName, name, "make", name, deed)
            for deed in SPAN_DEEDS + [("all",), ("part", ["q", "s"]), ("by", "q", "a")]:
                self.refused(InvalidName, name, "hold", name, deed)

    def test_names_of_one_and_of_eight_letters(self):
        for name in ("a", "z", "abcdefgh", "main", "put"):
            self.desk.put(name, row(1, 1))
            self.assertEqual(self.desk.row(name), row(1, 1))
        self.desk.branch("z")
        self.desk.branch("abcdefgh")

    def test_forks_of_the_same_name(self):
        self.refused(DoubleName, "main", "branch", "main")
        self.refused(DoubleName, "side", "branch", "side")
        self.desk.switch("side")
        self.refused(DoubleName, "main", "branch", "main")
        self.refused(DoubleName, "side", "branch", name="side")
        # The names of forks are others than those of rows.
        self.desk.branch("a")
        self.refused(DoubleName, "a", "branch", "a")

    def test_what_only_asks_for_names_knows_no_wrong_ones(self):
        for name in [*NO_NAMES, "q", "main", "side"]:
            for word in ("drop", "row", "span", "same_as"):
                self.refused(UnknownName, name, word, name)
        for name in [*NO_NAMES, "q", "a"]:
            self.refused(UnknownName, name, "switch", name)


class Rows(DeskChecks, unittest.TestCase):
    def test_put(self):
        for wrong in WRONG:
            self.refused(InvalidNumber, wrong, "put", "c", [n(1), wrong])
            self.refused(InvalidNumber, wrong, "put", "c", [wrong])
            self.refused(InvalidNumber, wrong, "put", "c", [wrong, WORSE, n(1)])
        for wrong in ([], row(1), row(1, 2, 3)):
            self.refused(InvalidRow, wrong, "put", "c", wrong)
            self.refused(InvalidRow, wrong, "put", row=wrong, name="c")

    def test_make(self):
        for word in ("times", "plus"):
            self.refused(UnknownName, "q", "make", "c", (word, "q", "r"))
            self.refused(UnknownName, "r", "make", "c", (word, "a", "r"))
            self.refused(UnknownName, "r", "make", "c", (word, "s", "r"))
            self.refused(WrongKind, "s", "make", "c", (word, "s", "t"))
            self.refused(WrongKind, "t", "make", "c", (word, "a", "t"))
        for word, wrong in [("scaled", BAD), ("power", 0), ("turned", -5)]:
            self.refused(UnknownName, "q", "make", "c", (word, "q", wrong))
            self.refused(WrongKind, "s", "make", "c", (word, "s", wrong))
            self.refused(InvalidNumber, wrong, "make", "c", (word, "a", wrong))
            self.refused(InvalidNumber, wrong, "make", deed=(word, "a", wrong), name="c")
        for wrong in WRONG:
            self.refused(InvalidNumber, wrong, "make", "c", ("scaled", "b", wrong))
        for e in (-1, 2, 3, 100, -2):
            self.refused(InvalidUnit, e, "make", "c", ("unit", e))

    def test_hold(self):
        for word in ("part", "sided"):
            self.refused(UnknownName, "q", "hold", "c", (word, ["q"]))
            self.refused(UnknownName, "q", "hold", "c", (word, ["a", "s", "q", "r"]))
            self.refused(WrongKind, "s", "hold", "c", (word, ["a", "s", "b", "t"]))
            self.refused(WrongKind, "t", "hold", deed=(word, ["t"]), name="c")
        for word in ("by", "met"):
            self.refused(UnknownName, "q", "hold", "c", (word, "q", "r"))
            self.refused(UnknownName, "q", "hold", "c", (word, "a", "q"))
            self.refused(WrongKind, "a", "hold", "c", (word, "a", "b"))
            self.refused(WrongKind, "b", "hold", "c", (word, "s", "b"))

    def test_names_of_another_fork_are_not_known(self):
        self.desk.put("c", row(7, 7))
        self.desk.switch("side")
        for word, *handed in [("make", "d", ("plus", "a", "c")), ("row", "c"), ("drop", "c"), ("hold", "d", ("part", ["c"])),
                              ("lies_in", "c", "s"), ("ticket", "a", ["c"]), ("same_as", "c")]:
            self.refused(UnknownName, "c", word, *handed)


class Questions(DeskChecks, unittest.TestCase):
    def test_row_and_span(self):
        self.refused(WrongKind, "s", "row", "s")
        self.refused(WrongKind, "a", "span", "a")
        self.refused(WrongKind, "a", "span", name="a")

    def test_lies_in(self):
        self.refused(UnknownName, "q", "lies_in", "q", "r")
        self.refused(UnknownName, "q", "lies_in", "a", "q")
        self.refused(UnknownName, "q", "lies_in", "q", "a")
        self.refused(WrongKind, "b", "lies_in", "a", "b")
        self.refused(WrongKind, "a", "lies_in", "s", "a")
        self.refused(WrongKind, "a", "lies_in", other="a", name="a")

    def test_ticket(self):
        self.refused(UnknownName, "q", "ticket", "q", ["r"])
        self.refused(UnknownName, "r", "ticket", "s", ["t", "r", "q"])
        self.refused(WrongKind, "s", "ticket", "s", ["t"])
        self.refused(WrongKind, "t", "ticket", "a", ["b", "t", "s"])
        self.refused(UnknownName, "q", "ticket", names=["a", "q"], name="a")

    def test_terms(self):
        for word in ("holds", "breaks"):
            self.refused(InvalidNumber, BAD, word, plus(take(1, A), ("take", BAD, letter("?"))))
            self.refused(InvalidLetter, "?", word, plus(letter("?"), ("take", BAD, A)))
            self.refused(InvalidLetter, "A", word, term=letter("A"))


class Undo(DeskChecks, unittest.TestCase):
    def test_nothing_to_undo(self):
        self.desk = Desk(Table([[row(1)]]))
        self.refused(NothingToUndo, 0, "undo")
        self.refused(NothingToUndo, 0, "order", "undo")
        self.desk.put("a", row(1))
        self.desk.undo()
        self.refused(NothingToUndo, 0, "undo")

    def test_calls_that_raised_are_not_taken_back(self):
        before = all_of(self.desk)
        self.desk.put("c", row(9, 9))
        for word, *handed in [("put", "c", row(1)), ("branch", "main"), ("switch", "q"), ("drop", "q"), ("order", "nonsense"),
                              ("make", "c", ("unit", 5)), ("hold", "c", ("by", "a", "b"))]:
            with self.assertRaises(ValueError):
                getattr(self.desk, word)(*handed)
        self.desk.undo()
        self.assertEqual(all_of(self.desk), before)


class Orders(DeskChecks, unittest.TestCase):
    def test_the_errors_of_the_methods(self):
        for text, kind, value in [
            ("put c 1", InvalidRow, row(1)), ("put c -", InvalidRow, []), ("put c 1 2 3", InvalidRow, row(1, 2, 3)),
            ("times c a q", UnknownName, "q"), ("plus c s a", WrongKind, "s"), ("scaled c s 2", WrongKind, "s"),
            ("power c q 1", UnknownName, "q"), ("turned c t 60", WrongKind, "t"), ("unit c 2", InvalidUnit, 2),
            ("unit c 999999999", InvalidUnit, 999999999), ("part c a q s", UnknownName, "q"), ("sided c a s", WrongKind, "s"),
            ("by c a q", UnknownName, "q"), ("met c s a", WrongKind, "a"), ("drop c", UnknownName, "c"),
            ("branch main", DoubleName, "main"), ("branch side", DoubleName, "side"), ("switch a", UnknownName, "a"),
            ("show q", UnknownName, "q"), ("lies q a", UnknownName, "q"), ("lies s a", WrongKind, "a"),
            ("same q", UnknownName, "q"),
        ]:
            self.refused(kind, value, "order", text)
            self.refused(kind, value, "order", text=text)

    def test_unreadable_ahead_of_all_else(self):
        for text in ("times A q r", "put A 1", "put q 2/4", "scaled q r 2/4", "power q r 0", "unit q -1", "drop Q", "branch Main"):
            self.refused(Unreadable, text, "order", text)
