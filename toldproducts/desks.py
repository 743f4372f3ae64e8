"""An office's desk: named rows and spans over a table, with forks and undo."""

from toldproducts.checks import check_rows_of, copied
from toldproducts.deeds import ROW, SPAN, check_known, check_name, named, row_made, span_made
from toldproducts.errors import DoubleName, NothingToUndo
from toldproducts.orders import read_order
from toldproducts.sayings import first_breaking
from toldproducts.solving import places_in
from toldproducts.texts import show_row, show_span
from toldproducts.tickets import ticket_for

ROW_DEEDS = ("times", "plus", "scaled", "power", "turned", "unit")
SPAN_DEEDS = ("part", "sided", "by", "met", "all")
QUESTIONS = ("show", "lies", "holds", "breaks", "forks", "names", "same")


class Desk:
    """Rows and spans over a table, under names of their own in each fork."""

    def __init__(self, table):
        self._table = table
        self._fork = "main"
        # No dict within is ever changed: so what was before a call can be kept as it stands.
        self._forks = {"main": {}}
        self._before = []

    @property
    def table(self):
        return self._table

    @property
    def fork(self):
        return self._fork

    def __len__(self):
        return len(self._before)

    def forks(self):
        """Return the ascending list of the names of the forks."""
        return sorted(self._forks)

    def names(self):
        """Return the ascending list of the names of the open fork."""
        return sorted(self._known())

    def put(self, name, row):
        """Put a named row."""
        check_name(name)
        check_rows_of([row], self._table.size)
        self._set(name, (ROW, list(row)))

    def make(self, name, deed):
        """Put the row that a deed makes."""
        check_name(name)
        self._set(name, (ROW, row_made(self._table, self._known(), deed)))

    def hold(self, name, deed):
        """Put the span that a deed makes."""
        check_name(name)
        self._set(name, (SPAN, span_made(self._table, self._known(), deed)))

    def drop(self, name):
        """Take a name out."""
        known = self._known()
        check_known(known, [name])
        self._set_all({other: thing for other, thing in known.items() if other != name})

    def branch(self, name):
        """Make a new fork with the rows and spans of the open one."""
        check_name(name)
        forks = self._forks
        if name in forks:
            raise DoubleName(name)
        self._change(self._fork, {**forks, name: self._known()})

    def switch(self, name):
        """Open a fork."""
        check_known(self._forks, [name])
        self._change(name, self._forks)

    def undo(self):
        """Take back the last call that changed something and is not taken back."""
        if not self._before:
            raise NothingToUndo(0)
        self._fork, self._forks = self._before.pop()

    def row(self, name):
        """Return the named row."""
        return list(named(self._known(), [name], ROW)[0])

    def span(self, name):
        """Return the named span."""
        return copied(named(self._known(), [name], SPAN)[0])

    def holds(self, term):
        """Return True if a saying holds by the table."""
        return first_breaking(self._table, term) is None

    def breaks(self, term):
        """Return the first list of rows by which a saying does not give noughts, None if there is none."""
        return first_breaking(self._table, term)

    def lies_in(self, name, other):
        """Return True if a named row, or span, lies in a named span."""
        known = self._known()
        check_known(known, [name, other])
        form = named(known, [other], SPAN)[0]
        kind, thing = known[name]
        rows = [thing] if kind == ROW else thing
        return all([places_in(form, row) is not None for row in rows])

    def same_as(self, name):
        """Return the ascending list of the other names that hold the same row, or the same span."""
        known = self._known()
        check_known(known, [name])
        return sorted([other for other in known if other != name and known[other] == known[name]])

    def ticket(self, name, names):
        """Return a closed ticket of a named row for named rows, None if there is none."""
        wish, *rows = named(self._known(), [name, *names], ROW)
        return ticket_for(self._table, rows, wish, False)

    def order(self, text):
        """Do what a text says, and return what is to be said of it."""
        word, told = read_order(text)
        if word in QUESTIONS:
            return self._answer(word, told)
        self._do(word, told)
        return "done"

    def _known(self):
        """Return the dict of what has names in the open fork."""
        return self._forks[self._fork]

    def _set(self, name, thing):
        known = self._known()
        self._set_all({**known, name: thing})

    def _set_all(self, known):
        forks = self._forks
        self._change(self._fork, {**forks, self._fork: known})

    def _change(self, fork, forks):
        self._before.append((self._fork, self._forks))
        self._fork, self._forks = fork, forks

    def _do(self, word, told):
        if word in ROW_DEEDS:
            self.make(told[0], (word, *told[1:]))
        elif word in SPAN_DEEDS:
            self.hold(told[0], (word, *told[1:]))
        elif word == "put":
            self.put(told[0], told[1])
        elif word == "drop":
            self.drop(told[0])
        elif word == "branch":
            self.branch(told[0])
        elif word == "switch":
            self.switch(told[0])
        else:
            self.undo()

    def _answer(self, word, told):
        if word == "show":
            return self._shown(told[0])
        if word == "lies":
            return "yes" if self.lies_in(told[0], told[1]) else "no"
        if word == "holds":
            return "yes" if self.holds(told[0]) else "no"
        if word == "breaks":
            return show_span(self.breaks(told[0]) or [])
        if word == "forks":
            return " ".join(self.forks())
        found = self.names() if word == "names" else self.same_as(told[0])
        return " ".join(found) if found else "none"

    def _shown(self, name):
        known = self._known()
        check_known(known, [name])
        kind, thing = known[name]
        return show_row(thing) if kind == ROW else show_span(thing)
