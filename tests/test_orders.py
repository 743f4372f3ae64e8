import unittest

from tests.helpers import n, row, rows, some
from tests.test_desks import all_of
from tests.test_desks_errors import DeskChecks
from tests.test_texts import changed
from toldproducts.desks import Desk
from toldproducts.errors import TableError, Unreadable
from toldproducts.tables import Table

UNREADABLE = """
put| put c|put c |put c  1 2|put  c 1 2| put c 1 2|put c 1 2 |put c 1  2|put C 1 2|put c 2/4 1|put c 1/1 0|put c 01 2|put c 1000000000 0
put c -0 1|put c 1 ; 2|put c 1,2|put c d 1 2|put ninechars 1 2|Put c 1 2|PUT c 1 2|put c 1 2 d|put 1 2|put c - -
times|times c|times c a|times c a b b|times c a B|times c a  b|times c a b |times c a 1|times 1 a b|timesc a b|times c,a,b
plus c a|plus c a b a|plus c a +|plus c a b+|plus c a 2
scaled c a|scaled c a b|scaled c a 2 3|scaled c a 2/4|scaled c a 1/1|scaled c 2 a|scaled c a 02|scaled c a 1/0|scaled c a -|scaled c a
scaled c a 1234567890|scaled a 2
power c a|power c a 0|power c a -1|power c a 01|power c a 1/2|power c a 2 2|power c a b|power c a 1.0|power c a 1000000000|power c 2
power c a +2|power c a  2|power c a -0|power c a 1/1
turned c a|turned c a 0|turned c a -2|turned c a 002|turned c a 2 |turned c a x|turned a 2
unit c|unit c -1|unit c 01|unit c -0|unit c a|unit c 1 1|unit c 1/2|unit c 1000000000|unit 1|unit c  1|unit c 00
part|part c|part c |part c  a|part c A|part c a a a a a a a|part c a b |part c a,b|part c 1|part c a 1
sided|sided c|sided c a a a a a a a|sided c a  b|sided c a B|sided c [a]|sided C a
by c s|by c s t s|by c S t|by c|by|by c s  t
met c s|met c s t s|met c s 1|met c|met
all|all c c|all C|all |all  c|all 1|allc
drop|drop a b|drop A|drop |drop  a|drop a |drop 1
branch|branch a b|branch A|branch |branch ninechars|branch a1
switch|switch main side|switch Main|switch |switch ninechars|switch  main
undo |undo 1|undo a| undo|Undo|undo undo|undo-
show|show a b|show A|show |show a |show  a
lies|lies a|lies a s t|lies A s|lies a  s|lies a s |lies
holds|holds |holds a b|holds A|holds ab|holds (a b|holds (ab)|holds 2/4[a]|holds  a|holds a |holds (a  b)|holds 1|holds [a]|holds -0[a]
breaks|breaks |breaks a b|breaks (a+b)|breaks a |breaks  a|breaks 1000000000[a]|breaks (a b))
forks |forks a|forks main|Forks| forks|fork
names |names a|Names| names|name
same|same a b|same A|same |same  a|same a |same 1
|nonsense|make c a|hold c a|row a|span s|lies_in a s|same_as a|ticket a b|len|table|fork|order|order names|put;a|a|1|-| |  |exit|help
times=c a b|power c a 2; names|names;|(a b)|"names"|'names'|put c 1 2 ; names|unit c 1e0|scaled c a 1_0
"""


def unreadable_texts():
    """The texts between the strokes, with what stands there before and behind them."""
    return [text for line in UNREADABLE.strip("\n").split("\n") for text in line.split("|")]


class Orders(DeskChecks, unittest.TestCase):
    def say(self, text, expected):
        self.assertEqual(self.desk.order(text), expected)

    def test_each_order_does_what_its_method_does(self):
        for text, word, *handed in [
            ("put c 1/2 -3", "put", "c", row("1/2", -3)), ("put a 0 0", "put", "a", row(0, 0)),
            ("times c a b", "make", "c", ("times", "a", "b")), ("plus c a b", "make", "c", ("plus", "a", "b")),
            ("scaled c a -2/3", "make", "c", ("scaled", "a", n(-2, 3))), ("scaled c a 0", "make", "c", ("scaled", "a", n(0))),
            ("power c a 3", "make", "c", ("power", "a", 3)), ("power c a 1", "make", "c", ("power", "a", 1)),
            ("power c a 60", "make", "c", ("power", "a", 60)), ("turned c a 3", "make", "c", ("turned", "a", 3)),
            ("turned c a 60", "make", "c", ("turned", "a", 60)), ("unit c 0", "make", "c", ("unit", 0)),
            ("unit c 1", "make", "c", ("unit", 1)), ("part c b", "hold", "c", ("part", ["b"])),
            ("part c a b a b a b", "hold", "c", ("part", ["a", "b"] * 3)), ("sided c b", "hold", "c", ("sided", ["b"])),
            ("sided c b a b a b a", "hold", "c", ("sided", ["b", "a"] * 3)), ("by c t s", "hold", "c", ("by", "t", "s")),
            ("by c s t", "hold", "c", ("by", "s", "t")), ("met c s t", "hold", "c", ("met", "s", "t")),
            ("all c", "hold", "c", ("all",)), ("all a", "hold", "a", ("all",)), ("drop a", "drop", "a"),
            ("branch third", "branch", "third"), ("switch side", "switch", "side"), ("switch main", "switch", "main"),
            ("undo", "undo"), ("put put 1 2", "put", "put", row(1, 2)), ("times abcdefgh b a", "make", "abcdefgh", ("times", "b", "a")),
        ]:
            self.setUp()
            elder, before = self.desk, all_of(self.desk)
            self.say(text, "done")
            told = all_of(self.desk)
            self.setUp()
            self.assertEqual(all_of(self.desk), before)
            self.assertIs(getattr(self.desk, word)(*handed), None)
            self.assertEqual(told, all_of(self.desk))
            if word != "undo":
                self.assertEqual(elder.order("undo"), "done")
                self.assertEqual(all_of(elder), before)

    def test_answers(self):
        before = all_of(self.desk)
        for text, expected in [
            ("show a", "1 2"), ("show s", "1 0 ; 0 1"), ("show t", "1 2"), ("lies a t", "yes"), ("lies b t", "no"),
            ("lies t s", "yes"), ("lies s t", "no"), ("holds (((a b) c) + -1[(a (b c))])", "yes"), ("holds 0", "yes"),
            ("holds ((a b) + -1[(b a)])", "no"), ("holds a", "no"), ("breaks ((a b) + -1[(b a)])", "1 0 ; 0 1"),
            ("breaks (((a b) c) + -1[(a (b c))])", "none"), ("breaks z", "1 0"), ("forks", "main side"), ("names", "a b s t"),
            ("same a", "none"), ("same s", "none"), ("breaks 0[q]", "none"), ("breaks 0", "none"),
        ]:
            self.say(text, expected)
            self.assertEqual(self.desk.order(text=text), expected)
        self.assertEqual(all_of(self.desk), before)

    def test_answers_of_none_and_of_several(self):
        self.desk = Desk(Table([rows([0, 1], [0, 0]), rows([0, 0], [0, 0])]))
        self.say("names", "none")
        self.say("forks", "main")
        self.say("put b 1 0", "done")
        self.say("put a 1 0", "done")
        self.say("plus c a b", "done")
        self.say("scaled d c 1/2", "done")
        self.say("same a", "b d")
        self.say("same c", "none")
        self.say("all w", "done")
        self.say("by x w w", "done")
        self.say("by y x x", "done")
        self.say("show x", "0 1")
        self.say("show y", "none")
        self.say("same w", "none")
        self.say("part u a", "done")
        self.say("same u", "w")
        self.say("show d", "1 0")
        self.assertEqual(len(self.desk), 8)

    def test_powers_in_either_bracketing(self):
        self.desk = Desk(Table([rows([0, 1], [0, 1]), rows([1, 0], [0, 0])]))
        self.say("unit a 0", "done")
        self.say("power p a 3", "done")
        self.say("turned t a 3", "done")
        self.say("show p", "1 0")
        self.say("show t", "0 1")

    def test_numbers_of_nine_digits_and_of_many_that_the_program_made(self):
        self.say("put c 999999999 -999999999/999999998", "done")
        self.say("show c", "999999999 -999999999/999999998")
        self.say("put d 9999 1/7", "done")
        self.say("power d d 60", "done")
        shown = self.desk.row("d")
        self.assertGreater(shown[0][0], 10 ** 200)
        self.say("show d", " ".join(f"{above}/{below}" if below > 1 else str(above) for above, below in shown))

    def test_each_other_text_is_unreadable(self):
        texts = unreadable_texts()
        self.assertGreater(len(texts), 200)
        for text in texts:
            self.refused(Unreadable, text, "order", text)
        for text in ("a" * 3000, "put c " + "1 " * 1490, "part c" + " a" * 1400, "holds " + "(a b)" * 500, " " * 3000):
            self.refused(Unreadable, text, "order", text)

    def test_texts_that_are_nearly_right(self):
        """What is read is done, and then taken back; what is not leaves all as it was."""
        source, counts = some(711), {True: 0, False: 0}
        texts = ["put c 1 2", "times c a b", "scaled c a 1/2", "power c a 2", "unit c 1", "part c a b", "by c s t", "all c",
                 "drop a", "branch new", "switch side", "show a", "lies a s", "holds (a b)", "forks", "names", "same a", "undo"]
        for _ in range(1500):
            text = changed(source, source.choice(texts))
            before, known = all_of(self.desk), text.split(" ")[0]
            try:
                self.desk.order(text)
            except TableError as error:
                counts[False] += 1
                if isinstance(error, Unreadable):
                    self.assertEqual(error.value, text)
                self.assertEqual(all_of(self.desk), before)
            else:
                counts[True] += 1
                self.assertIn(known, [one.split(" ")[0] for one in texts])
                if known == "undo":
                    self.setUp()
                elif len(self.desk) > before[2]:
                    self.desk.undo()
                self.assertEqual(all_of(self.desk), before)
        self.assertGreater(min(counts.values()), 100)
