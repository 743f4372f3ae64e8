"""Texts of numbers, rows, spans, tables, terms and monomials."""

from toldproducts.brackets import text_of


def show_number(number):
    """Return the text of a number."""
    above, below = number
    return str(above) if below == 1 else f"{above}/{below}"


def show_row(row):
    """Return the text of a row."""
    return " ".join([show_number(pair) for pair in row]) if row else "-"


def show_span(span):
    """Return the text of a span."""
    return show_rows(span) if span else "none"


def show_rows(rows):
    """Return the texts of some rows, one behind the other."""
    return " ; ".join([show_row(row) for row in rows])


def show_table(table):
    """Return the text of a table."""
    return " | ".join([show_rows(rows) for rows in table.products])


def show_term(term):
    """Return the text of a term."""
    if term[0] == "letter":
        return term[1]
    if term[0] == "nothing":
        return "0"
    if term[0] == "take":
        return f"{show_number(term[1])}[{show_term(term[2])}]"
    sign = " + " if term[0] == "plus" else " "
    return f"({show_term(term[1])}{sign}{show_term(term[2])})"


def show_monomial(monomial):
    """Return the text of a monomial."""
    return text_of(monomial)
