import copy
import unittest

from tests.helpers import Checks, any_products, any_row, lists_within, n, row, rows, some, spoil
from tests.plain import A, B, EITHER, GROUPED, NOTHING, any_term, less, plain_over, any_basis, times
from tests.plain_desk import PlainDesk
from tests.test_parts import CROSS, SECOND, STILL, TURN, UPPER
from tests.test_texts import plain_number, plain_row, plain_term
from tests.test_tickets import plain_lines
from toldproducts.desks import Desk
from toldproducts.errors import TableError
from toldproducts.tables import Table
from toldproducts.tickets import is_closed

NAMES = ["a", "b", "c", "d", "row", "spanning", "zz"]
FORKS = ["main", "side", "other", "abcdefgh"]
BAD_NAMES = ["", "A", "ninechars", "a1", "a_b", "ab-", " a", "abcdefghi"]


def all_of(desk):
    """All that a desk tells of itself, in the open fork and, behind switches that are taken back, in all others."""
    forks, fork, count = desk.forks(), desk.fork, len(desk)
    found = {}
    for name in forks:
        desk.switch(name)
        found[name] = {one: thing_of(desk, one) for one in desk.names()}
        desk.undo()
    assert (desk.forks(), desk.fork, len(desk)) == (forks, fork, count)
    return (fork, found, count)


def thing_of(desk, name):
    try:
        return ("row", desk.row(name))
    except TableError:
        return ("span", desk.span(name))


def tried(desk, word, *handed):
    """The tuple (True, what is told) or (False, class of the error, its value)."""
    try:
        return (True, getattr(desk, word)(*handed))
    except TableError as error:
        return (False, type(error), error.value)


def drawn_call(source, size, model):
    """A tuple of a method and what is handed in, now and then wrong."""
    known = list(model.things()) or ["a"]

    def name():
        return source.choice(known if source.randint(0, 9) else NAMES + BAD_NAMES)

    def of_kind(kind):
        fitting = [one for one in known if model.things().get(one, ("",))[0] == kind]
        return source.choice(fitting) if fitting and source.randint(0, 9) else name()

    new = source.choice(NAMES) if source.randint(0, 9) else source.choice(BAD_NAMES)
    word = source.choice(["put"] * 3 + ["make"] * 4 + ["hold"] * 4 + """drop branch switch switch undo undo row span lies_in
        lies_in same_as ticket forks names holds breaks""".split())
    if word == "put":
        wrong = source.choice([[], row(*[1] * (size + 1)), [(2, 4)] * size, [(1, 0)], row(*[1] * (size - 1))])
        return (word, new, any_row(source, size, 1) if source.randint(0, 9) else wrong)
    if word == "make":
        return (word, new, source.choice([
            ("times", of_kind("row"), of_kind("row")), ("plus", of_kind("row"), of_kind("row")),
            ("scaled", of_kind("row"), source.choice([n(-1, 2), n(2), n(0), (2, 4)])),
            ("power", of_kind("row"), source.choice([1, 2, 3, 0, -1])),
            ("turned", of_kind("row"), source.choice([1, 2, 3, 0])), ("unit", source.randint(-1, size))]))
    if word == "hold":
        names = [of_kind("row") for _ in range(source.randint(1, 3))]
        return (word, new, source.choice([("part", names), ("sided", names), ("by", of_kind("span"), of_kind("span")),
                                          ("met", of_kind("span"), of_kind("span")), ("all",)]))
    if word in ("branch", "switch"):
        return (word, source.choice(FORKS + ["zz", "Main", ""]))
    if word in ("holds", "breaks"):
        return (word, source.choice([EITHER, GROUPED, NOTHING, A, less(times(A, B), B), times(times(A, A), A)]))
    if word == "lies_in":
        return (word, name(), of_kind("span"))
    if word == "ticket":
        return (word, of_kind("row"), [of_kind("row") for _ in range(source.randint(0, 3))])
    handed = {"row": of_kind("row"), "span": of_kind("span"), "drop": name(), "same_as": name()}
    return (word, handed[word]) if word in handed else (word,)


def order_of(call):
    """The order that does what a call does, if there is one."""
    word, *parts = call
    if word == "put":
        return f"put {parts[0]} {plain_row(parts[1])}"
    if word in ("make", "hold"):
        words = [parts[1][0], parts[0]]
        for part in parts[1][1:]:
            words += part if isinstance(part, list) else [plain_number(part) if isinstance(part, tuple) else str(part)]
        return " ".join(words)
    if word in ("holds", "breaks"):
        return f"{word} {plain_term(parts[0])}"
    known = {"lies_in": "lies", "same_as": "same", "row": "show", "span": "show"}
    return None if word == "ticket" else " ".join([known.get(word, word), *parts])


def answer_to(word, told):
    """What an order answers, where its method tells something."""
    if word in ("holds", "lies_in"):
        return "yes" if told else "no"
    if word in ("forks", "names", "same_as"):
        return " ".join(told) or "none"
    if word == "row":
        return plain_row(told)
    if word in ("span", "breaks"):
        return " ; ".join(map(plain_row, told)) if told else "none"
    return "done"


class Ordinary(Checks, unittest.TestCase):
    def test_the_beginning(self):
        table = Table(TURN)
        desk = Desk(table)
        self.assertEqual([desk.fork, desk.forks(), desk.names(), len(desk)], ["main", ["main"], [], 0])
        self.assertEqual(desk.table, table)
        self.assertEqual(Desk(table=table).table.products, TURN)

    def test_rows(self):
        desk = Desk(Table(SECOND))
        self.assertIs(desk.put("a", row(1, 2)), None)
        self.assertIs(desk.put(name="b", row=row(3, "1/2")), None)
        for name, deed, expected in [
            ("c", ("times", "a", "b"), row(9, "3/2")), ("d", ("times", "b", "a"), row("7/2", 7)),
            ("e", ("plus", "a", "b"), row(4, "5/2")), ("f", ("scaled", "a", n(-1, 2)), row("-1/2", -1)),
            ("g", ("power", "a", 3), row(9, 18)), ("h", ("turned", "a", 3), row(9, 18)), ("i", ("unit", 1), row(0, 1)),
            ("a", ("plus", "a", "a"), row(2, 4)), ("abcdefgh", ("power", "b", 1), row(3, "1/2")),
        ]:
            self.assertIs(desk.make(name, deed), None)
            self.assertEqual(desk.row(name), expected)
        desk.make(deed=("unit", 0), name="a")
        self.assertEqual(desk.row(name="a"), row(1, 0))
        self.assertEqual(desk.names(), ["a", "abcdefgh", "b", "c", "d", "e", "f", "g", "h", "i"])
        self.assertEqual(len(desk), 12)

    def test_powers_and_turned_powers(self):
        lean = Desk(Table([rows([0, 1], [0, 1]), rows([1, 0], [0, 0])]))
        lean.put("a", row(1, 0))
        lean.make("p", ("power", "a", 3))
        lean.make("t", ("turned", "a", 3))
        self.assertEqual([lean.row("p"), lean.row("t")], [row(1, 0), row(0, 1)])
        turn = Desk(Table(TURN))
        turn.put("i", row(0, 1))
        turn.make("j", ("power", "i", 60))
        turn.make("k", ("turned", "i", 59))
        self.assertEqual([turn.row("j"), turn.row("k")], [row(1, 0), row(0, -1)])

    def test_spans(self):
        desk = Desk(Table(SECOND))
        desk.put("a", row(1, -1))
        desk.put("b", row(0, 2))
        for name, deed, expected in [
            ("all", ("all",), rows([1, 0], [0, 1])), ("pa", ("part", ["b"]), rows([0, 1])), ("sa", ("sided", ["a"]), rows([1, -1])),
            ("sb", ("sided", ["b"]), rows([1, 0], [0, 1])), ("pp", ("part", ["a", "b"]), rows([1, 0], [0, 1])),
            ("by", ("by", "sa", "all"), []), ("yb", ("by", "all", "sa"), rows([1, -1])), ("met", ("met", "sa", "pa"), []),
            ("tem", ("met", "all", "pa"), rows([0, 1])), ("six", ("part", ["a"] * 6), rows([1, -1])),
        ]:
            self.assertIs(desk.hold(name, deed), None)
            self.assertEqual(desk.span(name), expected)
        desk.hold(deed=("all",), name="a")
        self.assertEqual(desk.span(name="a"), rows([1, 0], [0, 1]))

    def test_forks(self):
        desk = Desk(Table(TURN))
        desk.put("a", row(1, 2))
        self.assertIs(desk.branch("side"), None)
        self.assertEqual([desk.fork, desk.forks()], ["main", ["main", "side"]])
        desk.hold("b", ("all",))
        desk.put("a", row(3, 4))
        self.assertIs(desk.switch("side"), None)
        self.assertEqual([desk.fork, desk.names(), desk.row("a")], ["side", ["a"], row(1, 2)])
        # The same name is a row in one fork and a span in the other one.
        desk.hold("a", ("all",))
        desk.put("b", row(5, 6))
        self.assertEqual([desk.span("a"), desk.row("b")], [rows([1, 0], [0, 1]), row(5, 6)])
        desk.switch(name="main")
        self.assertEqual([desk.row("a"), desk.span("b")], [row(3, 4), rows([1, 0], [0, 1])])
        desk.drop("b")
        desk.branch(name="third")
        desk.switch("third")
        self.assertEqual([desk.names(), desk.row("a")], [["a"], row(3, 4)])
        desk.switch("side")
        self.assertEqual([desk.names(), desk.forks()], [["a", "b"], ["main", "side", "third"]])

    def test_undo_back_to_the_beginning_and_one_more(self):
        desk = Desk(Table(TURN))
        states = [all_of(desk)]
        for word, *handed in [("put", "a", row(1, 2)), ("make", "b", ("times", "a", "a")), ("branch", "side"),
                              ("switch", "side"), ("drop", "a"), ("hold", "a", ("part", ["b"])), ("switch", "main"),
                              ("put", "a", row(9, 9)), ("switch", "main"), ("put", "a", row(9, 9)), ("branch", "again")]:
            getattr(desk, word)(*handed)
            states.append(all_of(desk))
        self.assertEqual(len(desk), 11)
        while len(states) > 1:
            self.assertEqual(all_of(desk), states.pop())
            self.assertIs(desk.undo(), None)
        self.assertEqual(all_of(desk), states[0])
        self.assertEqual([name.__name__ if isinstance(name, type) else name for name in tried(desk, "undo")],
                         [False, "NothingToUndo", 0])
        self.assertEqual(all_of(desk), states[0])
        # What is taken back does not come again.
        desk.put("z", row(1, 1))
        self.assertEqual([len(desk), desk.names()], [1, ["z"]])

    def test_calls_that_change_nothing_are_counted(self):
        desk = Desk(Table(TURN))
        desk.put("a", row(1, 2))
        desk.put("a", row(1, 2))
        desk.switch("main")
        desk.make("a", ("scaled", "a", n(1)))
        desk.order("switch main")
        desk.order("put a 1 2")
        self.assertEqual(len(desk), 6)
        for word, *handed in [("names",), ("forks",), ("row", "a"), ("same_as", "a"), ("holds", A), ("breaks", A),
                              ("ticket", "a", ["a"]), ("order", "show a"), ("order", "names"), ("order", "holds a")]:
            getattr(desk, word)(*handed)
        for wrong in [("put", "A", row(1, 2)), ("put", "a", row(1)), ("drop", "b"), ("branch", "main"), ("switch", "b")]:
            self.assertIs(tried(desk, *wrong)[0], False)
        self.assertEqual(len(desk), 6)
        desk.order("undo")
        desk.undo()
        self.assertEqual(len(desk), 4)

    def test_lies_in(self):
        desk = Desk(Table(SECOND))
        desk.put("a", row(2, -2))
        desk.put("b", row(1, 0))
        desk.put("o", row(0, 0))
        desk.hold("s", ("sided", ["a"]))
        desk.hold("w", ("all",))
        desk.hold("e", ("by", "s", "w"))
        for name, other, expected in [("a", "s", True), ("b", "s", False), ("s", "w", True), ("w", "s", False), ("s", "s", True),
                                      ("e", "s", True), ("e", "e", True), ("o", "e", True), ("a", "e", False), ("s", "e", False)]:
            self.assertIs(desk.lies_in(name, other), expected)
            self.assertIs(desk.lies_in(other=other, name=name), expected)

    def test_same_as(self):
        desk = Desk(Table(SECOND))
        for name, entries in [("d", row(1, 0)), ("b", row(1, 0)), ("c", row(2, 0)), ("a", row(1, 0))]:
            desk.put(name, entries)
        desk.hold("s", ("all",))
        desk.hold("t", ("part", ["b"]))
        desk.hold("r", ("all",))
        self.assertEqual([desk.same_as("b"), desk.same_as("c"), desk.same_as(name="s"), desk.same_as("t")],
                         [["a", "d"], [], ["r"], []])
        # A row is never the same as a span, also in a table of one unit.
        one = Desk(Table([[row(1)]]))
        one.put("a", row(1))
        one.hold("s", ("all",))
        self.assertEqual([one.same_as("a"), one.same_as("s")], [[], []])

    def test_holds_and_breaks(self):
        desk = Desk(Table(SECOND))
        self.assertEqual([desk.holds(EITHER), desk.holds(term=GROUPED), desk.holds(NOTHING)], [False, True, True])
        self.assertEqual([desk.breaks(EITHER), desk.breaks(term=GROUPED)], [rows([1, 0], [0, 1]), None])

    def test_tickets(self):
        desk = Desk(Table(SECOND))
        desk.put("a", row(1, 2))
        desk.put("b", row(5, 0))
        desk.make("c", ("times", "a", "b"))
        for name, names in [("c", ["a", "b"]), ("c", ["b"]), ("a", ["a"]), ("c", ["b", "b", "a", "a", "c", "c"])]:
            ticket = desk.ticket(name, names)
            self.assertIs(is_closed(ticket), True)
            self.assertEqual(plain_lines(SECOND, [desk.row(one) for one in names], ticket)[-1], desk.row(name))
        self.assertIs(desk.ticket("a", ["b"]), None)
        self.assertIs(desk.ticket(names=["b"], name="a"), None)
        self.assertIs(desk.ticket("a", []), None)
        desk.put("o", row(0, 0))
        self.assertEqual(plain_lines(SECOND, [], desk.ticket("o", []))[-1], row(0, 0))


class NewLists(Checks, unittest.TestCase):
    def test_what_is_handed_in_is_neither_kept_nor_changed(self):
        desk = Desk(Table(SECOND))
        entries, names, deed = row(1, 2), ["a", "b"], ("part", ["a", "b"])
        desk.put("a", entries)
        desk.put("b", entries)
        desk.hold("s", deed)
        before = all_of(desk)
        desk.ticket("a", names)
        self.assertEqual([entries, names, deed], [row(1, 2), ["a", "b"], ("part", ["a", "b"])])
        spoil([entries, names, deed])
        self.assertEqual(all_of(desk), before)

    def test_what_is_told_is_new_each_time(self):
        desk = Desk(Table(UPPER))
        desk.put("a", row(1, 2, 3))
        desk.put("b", row(1, 2, 3))
        desk.hold("s", ("sided", ["a"]))
        desk.hold("w", ("all",))
        desk.branch("side")
        calls = [("row", "a"), ("span", "s"), ("span", "w"), ("names",), ("forks",), ("same_as", "a"),
                 ("breaks", EITHER), ("ticket", "a", ["b", "a"])]
        for word, *handed in calls:
            one, other = getattr(desk, word)(*handed), getattr(desk, word)(*handed)
            kept = copy.deepcopy(one)
            self.assert_new(one, other, *handed)
            self.assertTrue(lists_within(one))
            spoil(one)
            self.assertEqual(other, kept)
            self.assertEqual(getattr(desk, word)(*handed), kept)
        # Also what a deed makes alike, in one fork and the other.
        desk.make("c", ("power", "a", 1))
        desk.row("a").clear()
        desk.switch("side")
        self.assertEqual([desk.row("a"), desk.span("w")], [row(1, 2, 3), rows([1, 0, 0], [0, 1, 0], [0, 0, 1])])

    def test_the_table_stays(self):
        table = Table(SECOND)
        desk = Desk(table)
        desk.put("a", row(1, 2))
        desk.make("b", ("times", "a", "a"))
        spoil(desk.table.products)
        self.assertEqual([desk.table, table.products], [table, SECOND])
        with self.assertRaises(AttributeError):
            desk.table = table
        with self.assertRaises(AttributeError):
            desk.fork = "main"

    def test_two_desks_over_one_table(self):
        table = Table(SECOND)
        one, other = Desk(table), Desk(table)
        one.put("a", row(1, 2))
        one.branch("side")
        self.assertEqual([other.names(), other.forks(), len(other)], [[], ["main"], 0])


class AgainstThePlainDesk(Checks, unittest.TestCase):
    def check_same(self, desk, model):
        self.assertEqual(all_of(desk), model.state())
        self.assertEqual([desk.names(), desk.forks(), desk.fork, len(desk)],
                         [model.do_names(), model.do_forks(), model.fork, len(model.before)])

    def play(self, source, products, many):
        """The same calls to a desk, by orders to another one, and to the plain one."""
        desk, ordered, model = Desk(Table(products)), Desk(Table(products)), PlainDesk(products)
        seen = set()
        for _ in range(many):
            call = drawn_call(source, len(products), model)
            handed = copy.deepcopy(call)
            expected, told = model.call(*call), tried(desk, *handed)
            self.assertEqual(handed, call)
            self.check_told(products, desk, call, told, expected)
            self.check_order(ordered, call, expected)
            seen.add((call[0], told[0] or told[1].__name__))
            if not told[0]:
                self.check_same(desk, model)
            if call[0] in ("put", "make") and told[0] and max(abs(part) for one in desk.row(call[1]) for part in one) > 10 ** 9:
                # No numbers that grow without end.
                for undone in (desk, ordered):
                    undone.undo()
                model.call("undo")
        self.check_same(desk, model)
        self.assertEqual(all_of(ordered), all_of(desk))
        return seen

    def check_told(self, products, desk, call, told, expected):
        if call[0] == "ticket" and told[0]:
            self.assertEqual(told[1] is not None, expected[1])
            if told[1] is not None:
                lists = [desk.row(name) for name in call[2]]
                self.assertEqual(plain_lines(products, lists, told[1])[-1], desk.row(call[1]))
        else:
            self.assertEqual(told, expected)
            self.assertIs(type(told[1]), type(expected[1]))

    def check_order(self, ordered, call, expected):
        text = order_of(call)
        if text is None:
            return
        before = all_of(ordered)
        told = tried(ordered, "order", text)
        word = call[0]
        if expected[0]:
            self.assertEqual(told, (True, answer_to(word, expected[1])))
        elif word in ("row", "span") and expected[1].__name__ == "WrongKind":
            self.assertEqual(told[0], True)
        elif told[1].__name__ == "Unreadable":
            # An order names no wrong names, numbers or exponents.
            self.assertEqual(told[2], text)
            self.assertEqual(all_of(ordered), before)
        else:
            self.assertEqual(told, expected)
            self.assertEqual(all_of(ordered), before)

    def test_drawn_calls(self):
        source, seen = some(701), set()
        tables = [TURN, SECOND, STILL, CROSS, UPPER, [[row("1/2")]], any_products(source, 2, 2), any_products(source, 3, 1),
                  plain_over(UPPER, any_basis(source, 3))]
        for products in tables * 6:
            seen |= self.play(source, products, 100)
        self.assertLessEqual({
            ("put", True), ("make", True), ("hold", True), ("drop", True), ("branch", True), ("switch", True), ("undo", True),
            ("lies_in", True), ("same_as", True), ("ticket", True), ("holds", True), ("breaks", True), ("row", True),
            ("put", "InvalidName"), ("put", "InvalidNumber"), ("put", "InvalidRow"), ("make", "InvalidName"),
            ("make", "UnknownName"), ("make", "WrongKind"), ("make", "InvalidNumber"), ("make", "InvalidUnit"),
            ("hold", "InvalidName"), ("hold", "UnknownName"), ("hold", "WrongKind"), ("drop", "UnknownName"),
            ("branch", "InvalidName"), ("branch", "DoubleName"), ("switch", "UnknownName"), ("undo", "NothingToUndo"),
            ("row", "WrongKind"), ("span", "WrongKind"), ("lies_in", "UnknownName"), ("lies_in", "WrongKind"),
            ("ticket", "WrongKind"), ("ticket", "UnknownName"), ("same_as", "UnknownName"),
        }, seen)

    def test_drawn_terms(self):
        source = some(702)
        for products in (TURN, SECOND, STILL, CROSS):
            desk, model = Desk(Table(products)), PlainDesk(products)
            for _ in range(20):
                term = any_term(source, "abc", 3)
                self.assertEqual(desk.breaks(term), model.do_breaks(term))
                self.assertIs(desk.holds(term), model.do_holds(term))
                self.assertEqual(desk.order("breaks " + plain_term(term)), answer_to("breaks", model.do_breaks(term)))
                self.assertEqual(desk.order("holds " + plain_term(term)), answer_to("holds", model.do_holds(term)))

    def test_a_thousand_calls(self):
        desk = Desk(Table(TURN))
        for at in range(500):
            desk.put("a" + chr(97 + at // 26) + chr(97 + at % 26), row(at, 1))
        self.assertEqual([len(desk), len(desk.names())], [500, 500])
        for _ in range(500):
            desk.undo()
        self.assertEqual([len(desk), desk.names()], [0, []])
