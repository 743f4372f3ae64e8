"""A plain desk of the tests' own: what each call tells, or the error that it raises, by whole copies of all forks."""

import copy

from tests.helpers import n, plain_form, plain_product, plain_sum
from tests.plain import all_products, lies_in, plain_closed, plain_first_breaking, plain_kernel, plain_units
from toldproducts import errors

CHANGES = ("put", "make", "hold", "drop", "branch", "switch")


class Wrong(Exception):
    def __init__(self, kind, value):
        super().__init__(kind, value)
        self.kind, self.value = getattr(errors, kind), value


def is_right(number):
    return number[1] > 0 and n(*number) == number


class PlainDesk:
    def __init__(self, products):
        self.products, self.size = products, len(products)
        self.fork, self.forks = "main", {"main": {}}
        self.before = []

    def call(self, word, *handed):
        """The tuple (True, what is told) or (False, class of the error, its value)."""
        elder = (self.fork, copy.deepcopy(self.forks))
        try:
            told = getattr(self, "do_" + word)(*copy.deepcopy(handed))
        except Wrong as wrong:
            assert elder == (self.fork, self.forks)
            return (False, wrong.kind, wrong.value)
        if word in CHANGES:
            self.before.append(elder)
        return (True, copy.deepcopy(told))

    def state(self):
        return (self.fork, self.forks, len(self.before))

    def things(self):
        return self.forks[self.fork]

    def wanted(self, names, *kinds):
        for name in names:
            if name not in self.things():
                raise Wrong("UnknownName", name)
        for name, kind in zip(names, kinds):
            if kind and self.things()[name][0] != kind:
                raise Wrong("WrongKind", name)
        return [self.things()[name][1] for name in names]

    def check_name(self, name):
        if len(name) not in range(1, 9) or set(name) - set("abcdefghijklmnopqrstuvwxyz"):
            raise Wrong("InvalidName", name)

    def do_put(self, name, row):
        self.check_name(name)
        for number in row:
            if not is_right(number):
                raise Wrong("InvalidNumber", number)
        if len(row) != self.size:
            raise Wrong("InvalidRow", row)
        self.things()[name] = ("row", row)

    def do_make(self, name, deed):
        self.check_name(name)
        self.things()[name] = ("row", self.made(*deed))

    def made(self, word, *parts):
        if word == "unit":
            if parts[0] not in range(self.size):
                raise Wrong("InvalidUnit", parts[0])
            return plain_units(self.size)[parts[0]]
        if word in ("times", "plus"):
            one, other = self.wanted(parts, "row", "row")
            return self.product(one, other) if word == "times" else plain_sum([n(1), n(1)], [one, other], self.size)
        row = self.wanted(parts[:1], "row")[0]
        if word == "scaled":
            if not is_right(parts[1]):
                raise Wrong("InvalidNumber", parts[1])
            return plain_sum([parts[1]], [row], self.size)
        if parts[1] < 1:
            raise Wrong("InvalidNumber", parts[1])
        told = row
        for _ in range(parts[1] - 1):
            told = self.product(told, row) if word == "power" else self.product(row, told)
        return told

    def product(self, one, other):
        return plain_product(self.products, one, other)

    def do_hold(self, name, deed):
        self.check_name(name)
        self.things()[name] = ("span", self.held(*deed))

    def held(self, word, *parts):
        if word == "all":
            return plain_units(self.size)
        if word in ("part", "sided"):
            rows = self.wanted(parts[0], *["row"] * len(parts[0]))
            return plain_closed(self.products, rows, "own" if word == "part" else "both")[-1]
        one, other = self.wanted(parts, "span", "span")
        if not one or not other:
            return []
        if word == "by":
            return plain_form(all_products(self.products, one, other))
        # Where rows of both add up to noughts, those of the one add up to what both have in common.
        sums = [plain_sum(numbers[:len(one)], one, self.size) for numbers in plain_kernel(one + other)]
        return plain_form(sums) if sums else []

    def do_drop(self, name):
        self.wanted([name])
        del self.things()[name]

    def do_branch(self, name):
        self.check_name(name)
        if name in self.forks:
            raise Wrong("DoubleName", name)
        self.forks[name] = copy.deepcopy(self.things())

    def do_switch(self, name):
        if name not in self.forks:
            raise Wrong("UnknownName", name)
        self.fork = name

    def do_undo(self):
        if not self.before:
            raise Wrong("NothingToUndo", 0)
        self.fork, self.forks = self.before.pop()

    def do_forks(self):
        return sorted(self.forks)

    def do_names(self):
        return sorted(self.things())

    def do_row(self, name):
        return self.wanted([name], "row")[0]

    def do_span(self, name):
        return self.wanted([name], "span")[0]

    def do_holds(self, term):
        return self.do_breaks(term) is None

    def do_breaks(self, term):
        return plain_first_breaking(self.products, term)

    def do_lies_in(self, name, other):
        thing, form = self.wanted([name, other], None, "span")
        rows = [thing] if self.things()[name][0] == "row" else thing
        return all(lies_in(form, one) for one in rows)

    def do_same_as(self, name):
        self.wanted([name])
        return sorted(other for other in self.things() if other != name and self.things()[other] == self.things()[name])

    def do_ticket(self, name, names):
        """Whether there is a ticket."""
        wish, *rows = self.wanted([name, *names], *["row"] * (1 + len(names)))
        return lies_in(plain_closed(self.products, rows, "own")[-1] if rows else [], wish)
