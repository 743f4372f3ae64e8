import re
import unittest
from itertools import product

from tests.helpers import Checks, any_number, any_products, any_row, any_rows, n, row, rows, some
from tests.plain import A, B, C, EITHER, GROUPED, NOTHING, any_term, deep, letter, plain_form, plus, take, times
from tests.test_parts import SECOND, STILL, TURN
from toldproducts.chains import wordings
from toldproducts.errors import Unreadable
from toldproducts.powers import power
from toldproducts.readings import read_number, read_row, read_table, read_term
from toldproducts.sayings import expanded, monomials
from toldproducts.tables import Table
from toldproducts.texts import show_monomial, show_number, show_row, show_span, show_table, show_term

# The places at which a text may be changed, and the signs that may come there.
SIGNS = "0123456789-/ +;|()[]abz."


def plain_number(number):
    return str(number[0]) if number[1] == 1 else "{}/{}".format(*number)


def plain_row(entries):
    return " ".join(map(plain_number, entries)) or "-"


def plain_term(term):
    kind, parts = term[0], term[1:]
    if kind == "take":
        return plain_number(parts[0]) + "[" + plain_term(parts[1]) + "]"
    if kind == "plus":
        return "(" + " + ".join(map(plain_term, parts)) + ")"
    if kind == "times":
        return "(" + " ".join(map(plain_term, parts)) + ")"
    return parts[0] if parts else "0"


def changed(source, text):
    """A text with a sign left out, put in or exchanged."""
    at, sign = source.randrange(len(text) + 1), source.choice(SIGNS)
    return source.choice([text[:at] + sign + text[at:], text[:at] + text[at + 1:], text[:at] + sign + text[at + 1:],
                          text[:at] + text[at:at + 1] * 2 + text[at + 1:]])


def right_number(text):
    """Whether a number with integers of at most nine digits has a text."""
    found = re.fullmatch("(0|-?[1-9][0-9]{0,8})(/([1-9][0-9]{0,8}))?", text)
    if not found:
        return False
    number = (int(found[1]), int(found[3] or 1))
    return n(*number) == number and plain_number(number) == text


class Texts(Checks, unittest.TestCase):
    def check(self, function, name, thing, text):
        self.assertEqual(self.check_call(function, {name: thing}), text)

    def test_numbers(self):
        for number, text in [((3, 1), "3"), ((0, 1), "0"), ((-7, 1), "-7"), ((1, 2), "1/2"), ((-5, 3), "-5/3"),
                             ((10 ** 300, 7), "1" + "0" * 300 + "/7"), ((1, 10 ** 3999), "1/1" + "0" * 3999)]:
            self.check(show_number, "number", number, text)

    def test_rows_and_spans(self):
        for entries, text in [(row("1/2", -3), "1/2 -3"), (row(0), "0"), ([], "-"), (row(1, 0, 0, "-1/9"), "1 0 0 -1/9")]:
            self.check(show_row, "row", list(entries), text)
        for form, text in [([], "none"), (rows([1, -1]), "1 -1"), (rows([1, 0], [0, 1]), "1 0 ; 0 1"), ([row(1)], "1"),
                           (rows([1, 0, "2/3"], [0, 1, -4]), "1 0 2/3 ; 0 1 -4")]:
            self.check(show_span, "span", form, text)

    def test_tables(self):
        for products, text in [(TURN, "1 0 ; 0 1 | 0 1 ; -1 0"), (STILL, "0 1 ; 0 0 | 0 0 ; 0 0"), ([[row("2/3")]], "2/3"),
                               (SECOND, "1 0 ; 0 1 | 1 0 ; 0 1")]:
            self.check(show_table, "table", Table(products), text)

    def test_terms(self):
        for term, text in [(EITHER, "((a b) + -1[(b a)])"), (NOTHING, "0"), (A, "a"), (letter("z"), "z"),
                           (take("2/3", NOTHING), "2/3[0]"), (take(0, A), "0[a]"), (plus(NOTHING, A), "(0 + a)"),
                           (times(A, plus(B, C)), "(a (b + c))"), (take(-1, take(2, A)), "-1[2[a]]"),
                           (GROUPED, "(((a b) c) + -1[(a (b c))])"), (times(times(A, A), A), "((a a) a)")]:
            self.check(show_term, "term", term, text)

    def test_monomials(self):
        for monomial, text in [("a", "a"), (("a", "b"), "(ab)"), ((("a", "b"), "c"), "((ab)c)"), (("x", ("x", "x")), "(x(xx))")]:
            self.check(show_monomial, "monomial", monomial, text)
        self.assertEqual([show_monomial(one) for one in monomials(2)], ["(ab)", "(ba)"])
        self.assertEqual([show_monomial(one) for one in wordings(3)], ["(x(xx))", "((xx)x)"])
        self.assertEqual([(show_number(number), show_monomial(one)) for number, one in expanded(GROUPED)],
                         [("1", "((ab)c)"), ("-1", "(a(bc))")])

    def test_drawn(self):
        source = some(601)
        for size in range(1, 9):
            entries = any_row(source, size, 10 ** 12, 10 ** 12)
            self.assertEqual(show_row(entries), plain_row(entries))
            form = plain_form(any_rows(source, 2, size, 99, 99))
            self.assertEqual(show_span(form), " ; ".join(map(plain_row, form)))
            products = any_products(source, size, 99, 99)
            self.assertEqual(show_table(Table(products)), " | ".join(" ; ".join(map(plain_row, lists)) for lists in products))
        for _ in range(50):
            term = any_term(source, "abcd", 4)
            self.assertEqual(show_term(term), plain_term(term))

    def test_numbers_of_thousands_of_digits(self):
        table = Table([[row("1/9")]])
        told = power(table, row("9999/7"), 60)
        self.assertEqual(show_row(told), plain_row(told))
        great = power(table, [n(10 ** 60 + 1)], 60)
        self.assertGreater(len(show_row(great)), 3500)
        self.assertEqual(show_row(great), plain_row(great))


class Readings(Checks, unittest.TestCase):
    def check(self, function, text, thing):
        self.assertEqual(self.check_call(function, {"text": text}), thing)

    def refuse(self, function, *texts):
        for text in texts:
            self.assert_raises(Unreadable, text, function, text)
            with self.assertRaises(Unreadable) as caught:
                function(text=text)
            self.assertEqual(caught.exception.value, text)

    def test_numbers(self):
        for text, number in [("3", (3, 1)), ("0", (0, 1)), ("-7", (-7, 1)), ("1/2", (1, 2)), ("-5/3", (-5, 3)),
                             ("999999999", (999999999, 1)), ("-999999999/100000000", (-999999999, 100000000)),
                             ("1/999999999", (1, 999999999)), ("10", (10, 1)), ("-100/101", (-100, 101))]:
            self.check(read_number, text, number)
        self.refuse(read_number, "", "-", "/", "1/", "/2", "-0", "00", "01", "-01", "+1", "--1", "1-", "1/1", "-3/1", "0/1",
                    "0/2", "2/4", "-2/4", "1/0", "0/0", "1/-2", "-1/-2", "1/02", "01/2", "1/2/3", "1//2", " 1", "1 ", "1 /2",
                    "1/ 2", "1 2", "1000000000", "-1000000000", "1/1000000000", "0000000001", "1.0", "1e3", "1_0", "a", "(1)",
                    "1[a]", "one", "0x1", "1,0", "-1/1", "1/-1", "9999999999")

    def test_rows(self):
        for text, entries in [("1/2 -3", row("1/2", -3)), ("-", []), ("0", row(0)), ("1 0 0", row(1, 0, 0)), ("-1", row(-1))]:
            self.check(read_row, text, entries)
        self.refuse(read_row, "", " ", "1  2", " 1 2", "1 2 ", "1 2\t", "- -", "1 -", "- 1", "1 ; 2", "1;2", "1, 2", "2/4 1",
                    "1 01", "1 -0", "none", "1 2000000000", "1 a", "--", "-  ", " -")

    def test_tables(self):
        for text, products in [("1 0 ; 0 1 | 0 1 ; -1 0", TURN), ("2/3", [[row("2/3")]]), ("0", [[row(0)]]),
                               ("0 1 ; 0 0 | 0 0 ; 0 0", STILL)]:
            self.check(read_table, text, Table(products))
        self.refuse(read_table, "", "-", "- ; - | - ; -", "1 0", "1 ; 1", "1 | 1", "1 ; 1 | 1 ; 1", "1 0 | 0 1", "1 0 ; 0 1",
                    "1 0 ; 0 1 | 0 1 ; -1", "1 0 ; 0 1 | 0 1 ; -1 0 ; 1 1", "1 0 ; 0 1 | 0 1 ; -1 0 | 0 0 ; 0 0",
                    "1 0 ; 0 1 | 0 1 ; -1 0 |", "1 0 ; 0 1 | 0 1 ; -1 0 ", " 1 0 ; 0 1 | 0 1 ; -1 0", "1 0;0 1 | 0 1 ; -1 0",
                    "1 0 ; 0 1|0 1 ; -1 0", "1 0 ; 0 1 ; 0 1 ; -1 0", "1 0 | 0 1 | 0 1 | -1 0", "1 0 ; 0 1 | 0 1 ; -1 2/4",
                    "1 0 ; 0 1 | 0 1 ; -1 1000000000", "1 0 ;  0 1 | 0 1 ; -1 0", "1 0 ; 0 1 || 0 1 ; -1 0", "none", "|", ";",
                    "1 0 0 ; 0 1 0 | 0 1 0 ; -1 0 0", "1/1", "1 |", "| 1", " | ")

    def test_terms(self):
        for text, term in [("((a b) + -1[(b a)])", EITHER), ("0", NOTHING), ("a", A), ("z", letter("z")), ("0[a]", take(0, A)),
                           ("2/3[0]", take("2/3", NOTHING)), ("(0 + a)", plus(NOTHING, A)), ("(0 0)", times(NOTHING, NOTHING)),
                           ("-1[2[a]]", take(-1, take(2, A))), ("(((a b) c) + -1[(a (b c))])", GROUPED),
                           ("999999999[a]", take(999999999, A)), ("(a 0[b])", times(A, take(0, B)))]:
            self.check(read_term, text, term)
        self.refuse(read_term, "", " ", "A", "ab", "a b", "a + b", "(a)", "(a b", "a b)", "(ab)", "(a  b)", "(a+b)", "(a +b)",
                    "(a+ b)", "(a  + b)", "(a +  b)", "( a b)", "(a b )", "(a - b)", "(a b c)", "(a + b + c)", "()", "(", ")", "[",
                    "]", "[a]", "1", "2", "1[]", "1[a", "1a]", "1[a]]", "1 [a]", "1[ a]", "1[a ]", "2/4[a]", "1/1[a]", "-0[a]",
                    "01[a]", "00", "-0", "-", "0 ", " 0", "00[a]", "1/0[a]", "1000000000[a]", "1/1000000000[a]", "-a", "-[a]",
                    "/[a]", "a[b]", "(a b))", "((a b)", "(a b)(c d)", "(a b) c", "1[a b]", "1[a + b]", "(1 a)", "(a 1)", "0[",
                    "nothing", "{a}", "{", "|", "~", "`", "@", "(~ a)", "(a {)", "1[}]", "(a,b)",
                    "(a * b)", "(+ a)", "(a + )", "(a )", "( b)", "(a +)", "(0)", "0[0", "--1[a]")

    def test_it_gives_back_what_is_shown(self):
        source = some(611)
        for size in range(1, 9):
            for most in (1, 9, 10 ** 9 - 1):
                number, entries = any_number(source, most, most), any_row(source, size * 5, most, most)
                self.check(read_number, show_number(number), number)
                self.check(read_row, show_row(entries), entries)
            # Eight units have as many numbers as a text of three thousand signs holds.
            products = any_products(source, size, 99, 9)
            text = show_table(Table(products))
            self.assertLessEqual(len(text), 3000)
            self.check(read_table, text, Table(products))
        for _ in range(100):
            term = any_term(source, "abcxyz", 4, source.randint(1, 9))
            self.check(read_term, show_term(term), term)

    def test_deep_terms_and_long_texts(self):
        term = A
        for at in range(19):
            term = [times(term, B), times(B, term), plus(term, C), take(-at, term)][at % 4]
        self.assertEqual(deep(term), 20)
        self.check(read_term, show_term(term), term)
        for build in (lambda one: times(one, A), lambda one: plus(A, one), lambda one: take("1/2", one)):
            term = A
            for _ in range(19):
                term = build(term)
            self.check(read_term, show_term(term), term)
        wide, build = [A] * 512, times
        while len(wide) > 1:
            wide, build = [build(one, other) for one, other in zip(wide[::2], wide[1::2])], plus
        self.assertEqual(len(show_term(wide[0])), 2555)
        self.check(read_term, show_term(wide[0]), wide[0])
        entries = row(*[-1] * 1000)
        self.assertEqual(len(show_row(entries)), 2999)
        self.check(read_row, show_row(entries), entries)
        self.refuse(read_number, "1" * 3000, "-" * 3000, "0" * 3000)
        self.refuse(read_row, " " * 3000, "1 " * 1500, "1" * 3000)
        self.refuse(read_table, "1 ; " * 700 + "1", " | " * 1000)
        self.refuse(read_term, "a" * 3000, "(a b)" * 600, "(" * 20, "1[" * 20, "1" * 3000, ")" * 3000, "((" * 5 + "1[" * 10 + "a")

    def test_no_other_text(self):
        """Of texts that are nearly right just those are read that something has."""
        source, counts = some(612), {}
        cases = [(read_number, show_number, ["3", "-5/3", "0", "12/7", "999999999"]),
                 (read_row, show_row, ["1/2 -3", "0 0 1", "-", "10 2"]),
                 (read_table, show_table, ["1 0 ; 0 1 | 0 1 ; -1 0", "2", "1/2 0 ; 3 4 | 5 6 ; 7 8"]),
                 (read_term, show_term, ["((a b) + -1[(b a)])", "0", "2/3[(a b)]", "(0 + a)", "((a b) c)", "b"])]
        for read, show, texts in cases:
            for _ in range(1500):
                text = changed(source, source.choice(texts))
                if source.randint(0, 1):
                    text = changed(source, text)
                try:
                    thing = read(text)
                except Unreadable as error:
                    self.assertEqual(error.value, text)
                    counts[read, False] = counts.get((read, False), 0) + 1
                else:
                    self.assertEqual(show(thing), text)
                    counts[read, True] = counts.get((read, True), 0) + 1
        self.assertGreater(min(counts.values()), 20)
        self.assertEqual(len(counts), 8)

    def test_all_short_texts_of_numbers_and_rows(self):
        for length in range(5):
            for signs in product("012-/ ", repeat=length):
                text = "".join(signs)
                for read, right in [
                    (read_number, right_number(text)),
                    (read_row, text == "-" or all(right_number(word) for word in text.split(" "))),
                ]:
                    try:
                        read(text)
                    except Unreadable:
                        self.assertFalse(right, text)
                    else:
                        self.assertTrue(right, text)
