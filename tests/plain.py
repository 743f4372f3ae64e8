"""Plain reckonings of the tests' own, by fractions and by trying all: terms, sayings, what is owed, spans, maps."""

from fractions import Fraction
from itertools import permutations, product

from tests.helpers import n, plain_form, plain_product, plain_sum, row

A, B, C, D = (("letter", sign) for sign in "abcd")
NOTHING = ("nothing",)


def letter(sign):
    return ("letter", sign)


def times(one, other):
    return ("times", one, other)


def take(number, one):
    return ("take", n(Fraction(number)), one)


def plus(one, *others):
    """The sum of terms, the last two innermost."""
    return ("plus", one, plus(*others)) if others else one


def less(one, other):
    return plus(one, take(-1, other))


def term_of(monomial):
    return letter(monomial) if isinstance(monomial, str) else times(*map(term_of, monomial))


def term_of_sum(expansion):
    """A term with an expansion."""
    return plus(*[("take", number, term_of(monomial)) for number, monomial in expansion]) if expansion else NOTHING


def tuples_in(term):
    """How many tuples a term has, numbers not counted."""
    return 1 + sum(tuples_in(part) for part in term[1:] if isinstance(part, tuple) and isinstance(part[0], str))


def deep(term):
    return 1 + max([deep(part) for part in term[1:] if isinstance(part, tuple) and isinstance(part[0], str)], default=0)


GROUPED = less(times(times(A, B), C), times(A, times(B, C)))
EITHER = less(times(A, B), times(B, A))
TURNED = plus(times(A, B), times(B, A))
ROUND = plus(times(times(A, B), C), times(times(B, C), A), times(times(C, A), B))
SAYINGS = {
    "grouped": [GROUPED],
    "either": [EITHER],
    "grouped either way": [GROUPED, EITHER],
    "lie": [TURNED, ROUND],
    "leibniz": [less(times(A, times(B, C)), plus(times(times(A, B), C), times(B, times(A, C))))],
    "left alike": [less(GROUPED, less(times(times(B, A), C), times(B, times(A, C))))],
    "novikov": [less(GROUPED, less(times(times(B, A), C), times(B, times(A, C)))),
                less(times(times(A, B), C), times(times(A, C), B))],
    "alternative": [plus(GROUPED, less(times(times(B, A), C), times(B, times(A, C)))),
                    plus(GROUPED, less(times(times(A, C), B), times(A, times(C, B))))],
    "permuting": [GROUPED, less(times(A, times(B, C)), times(B, times(A, C)))],
    "zinbiel": [less(times(times(A, B), C), plus(times(A, times(B, C)), times(A, times(C, B))))],
    "none twice": [times(A, B)],
    "none thrice": [times(times(A, B), C), times(A, times(B, C))],
    "left none": [times(times(A, B), C)],
}


def plain_letters(term):
    if term[0] == "letter":
        return {term[1]}
    return set().union(*[plain_letters(part) for part in term[1:] if isinstance(part[0], str)])


def plain_text(monomial):
    return monomial if isinstance(monomial, str) else "(" + "".join(map(plain_text, monomial)) + ")"


def plain_leaves(monomial):
    return [sign for sign in plain_text(monomial) if sign not in "()"]


def plain_parts(term):
    """The dict of the fractions of the monomials of a term, also noughts."""
    if term[0] == "letter":
        return {term[1]: Fraction(1)}
    found = {}
    if term[0] == "take":
        for monomial, number in plain_parts(term[2]).items():
            found[monomial] = Fraction(*term[1]) * number
    if term[0] == "plus":
        for part in term[1:]:
            for monomial, number in plain_parts(part).items():
                found[monomial] = found.get(monomial, 0) + number
    if term[0] == "times":
        for (one, number), (other, share) in product(plain_parts(term[1]).items(), plain_parts(term[2]).items()):
            found[(one, other)] = number * share
    return found


def plain_expansion(term):
    return in_order([(n(number), monomial) for monomial, number in plain_parts(term).items() if number])


def in_order(parts):
    return sorted(parts, key=lambda part: (len(plain_leaves(part[1])), plain_text(part[1])))


def plain_worth(products, term, rows):
    """The row of a term, rows told by a dict of letters."""
    if term[0] == "letter":
        return list(rows[term[1]])
    if term[0] == "nothing":
        return row(*[0] * len(products))
    if term[0] == "take":
        return plain_sum([term[1]], [plain_worth(products, term[2], rows)], len(products))
    one, other = (plain_worth(products, part, rows) for part in term[1:])
    if term[0] == "plus":
        return plain_sum([(1, 1), (1, 1)], [one, other], len(products))
    return plain_product(products, one, other)


def is_nothing(entries):
    return all(number == (0, 1) for number in entries)


def plain_first_breaking(products, term):
    """The first list of rows by which a term does not give noughts: all lists of the document are tried in order."""
    size, letters = len(products), sorted(plain_letters(term))
    monomials = [monomial for _, monomial in plain_expansion(term)]
    kinds = []
    for sign in letters:
        most = max([plain_leaves(monomial).count(sign) for monomial in monomials], default=0)
        kinds.append([entries for entries in product(range(most + 1), repeat=size) if sum(entries) <= most])
    lists = sorted(product(*kinds), key=lambda rows: (sum(map(sum, rows)), [-k for entries in rows for k in entries]))
    for entries in lists:
        rows = [row(*one) for one in entries]
        if not is_nothing(plain_worth(products, term, dict(zip(letters, rows)))):
            return rows
    return None


def plain_linear(term):
    """The expansions of the many-linear terms, by the words of the document."""
    letters, parted = sorted(plain_letters(term)), {}
    for number, monomial in plain_expansion(term):
        leaves = plain_leaves(monomial)
        parted.setdefault(tuple(leaves.count(sign) for sign in letters), []).append((number, monomial))
    found = []
    for counts, parts in sorted(parted.items()):
        new = "abcdefghijklmnopqrstuvwxyz"[:sum(counts)]
        sums = []
        for number, monomial in parts:
            for order in product(*[permutations(new[sum(counts[:k]):sum(counts[:k + 1])]) for k in range(len(counts))]):
                left = {sign: list(signs) for sign, signs in zip(letters, order)}
                sums.append((number, plain_replaced(monomial, left)))
        found.append(in_order(sums))
    return found


def plain_replaced(monomial, left):
    """Each letter replaced by the next one of its list."""
    if isinstance(monomial, str):
        return left[monomial].pop(0)
    one = plain_replaced(monomial[0], left)
    return (one, plain_replaced(monomial[1], left))


def plain_monomials(letters):
    """All monomials with each of some letters once: by which letters stand in the first half."""
    if len(letters) == 1:
        return list(letters)
    found = []
    for halves in product((0, 1), repeat=len(letters)):
        one = [sign for sign, half in zip(letters, halves) if not half]
        other = [sign for sign, half in zip(letters, halves) if half]
        if one and other:
            found += product(plain_monomials(one), plain_monomials(other))
    return sorted(found, key=plain_text)


def plain_kernel(lists):
    """The form of the lists of numbers with which rows add up to noughts: rows and units are eliminated side by side."""
    leads, left_over = {}, []
    width = len(lists[0]) if lists else 0
    for at, numbers in enumerate(lists):
        left = {place: Fraction(*number) for place, number in enumerate(numbers) if number[0]}
        left[width + at] = Fraction(1)
        for place in sorted(leads):
            take_off(left, leads[place], place)
        if min(left) < width:
            leads[min(left)] = {place: number / left[min(left)] for place, number in left.items()}
        else:
            left_over.append(row(*[left.get(width + k, 0) for k in range(len(lists))]))
    return sparse_form(left_over)


def plain_worths(products, many):
    """For each monomial of so many letters the list of its numbers at all units, each product reckoned once."""
    units, known = plain_units(len(products)), {}

    def worth(monomial, choice):
        if isinstance(monomial, str):
            return units[choice[monomial]]
        key = (monomial, tuple(choice[sign] for sign in plain_leaves(monomial)))
        if key not in known:
            known[key] = plain_product(products, worth(monomial[0], choice), worth(monomial[1], choice))
        return known[key]

    letters = "abcd"[:many]
    choices = [dict(zip(letters, places)) for places in product(range(len(products)), repeat=many)]
    return [[number for choice in choices for number in worth(one, choice)] for one in plain_monomials(letters)]


def plain_sayings(products, many):
    """The form of the sayings of a table, by the worths of all monomials at all units."""
    return plain_kernel(plain_worths(products, many))


def plain_images(monomial, images):
    if isinstance(monomial, str):
        return images.get(monomial, monomial)
    return tuple(plain_images(half, images) for half in monomial)


def plain_owed(terms, many):
    """The form of what is owed: all told ones in all orders, and all of the elder ones with one letter more."""
    elder = []
    for count in range(1, many + 1):
        letters = "abcd"[:count]
        monomials = plain_monomials(letters)
        sums = [parts for parts in map(plain_expansion, terms) if parts and len(plain_leaves(parts[0][1])) == count]
        for parts in elder:
            new = letters[-1]
            sums += [[(number, (monomial, new)) for number, monomial in parts],
                     [(number, (new, monomial)) for number, monomial in parts]]
            sums += [[(number, plain_images(monomial, {sign: image})) for number, monomial in parts]
                     for sign in letters[:-1] for image in ((sign, new), (new, sign))]
        lists = []
        for parts in sums:
            for order in permutations(letters):
                images = dict(zip(letters, order))
                known = {plain_images(monomial, images): number for number, monomial in parts}
                lists.append([known.get(monomial, (0, 1)) for monomial in monomials])
        form = sparse_form(lists)
        elder = [[(number, monomial) for number, monomial in zip(numbers, monomials) if number[0]] for numbers in form]
    return form


def sparse_form(lists):
    """The form of the span of rows in which most numbers are 0, by Gauss and Jordan over dicts."""
    leads, width = {}, len(lists[0]) if lists else 0
    for numbers in lists:
        left = {at: Fraction(*number) for at, number in enumerate(numbers) if number[0]}
        for place in sorted(leads):
            take_off(left, leads[place], place)
        if left:
            place = min(left)
            lead = {at: number / left[place] for at, number in left.items()}
            for elder in leads.values():
                take_off(elder, lead, place)
            leads[place] = lead
    return [row(*[leads[place].get(at, 0) for at in range(width)]) for place in sorted(leads)]


def lies_in(form, numbers):
    """Whether a list of numbers lies in the span of a form."""
    left = {at: Fraction(*number) for at, number in enumerate(numbers) if number[0]}
    for entries in form:
        lead = {at: Fraction(*number) for at, number in enumerate(entries) if number[0]}
        take_off(left, lead, min(lead))
    return not left


def take_off(left, lead, place):
    share = left.get(place, 0)
    if share:
        for at, number in lead.items():
            left[at] = left.get(at, 0) - share * number
            if not left[at]:
                del left[at]


def plain_units(size):
    return [row(*[int(at == place) for at in range(size)]) for place in range(size)]


def plain_back(basis):
    """The units written over a basis."""
    size = len(basis)
    form = plain_form([list(entries) + unit for entries, unit in zip(basis, plain_units(size))])
    return [entries[size:] for entries in form]


def plain_over(products, basis):
    """The products of a table over another basis."""
    back = plain_back(basis)
    return [[plain_sum(plain_product(products, one, other), back, len(basis)) for other in basis] for one in basis]


def plain_opposite(products):
    return [[lists[at] for lists in products] for at in range(len(products))]


def any_basis(source, size, most=2):
    while True:
        basis = [row(*[source.randint(-most, most) for _ in range(size)]) for _ in range(size)]
        if len(plain_form(basis)) == size:
            return basis


def any_term(source, letters, degree, depth=4):
    """A drawn term whose monomials have at most so many letters."""
    kind = source.choice(["letter", "take", "plus", "times", "times", "plus"]) if depth > 1 else "letter"
    if kind == "times" and degree > 1:
        half = source.randint(1, degree - 1)
        return times(any_term(source, letters, half, depth - 1), any_term(source, letters, degree - half, depth - 1))
    if kind == "plus":
        return plus(*[any_term(source, letters, degree, depth - 1) for _ in range(2)])
    if kind == "take":
        return take(Fraction(source.randint(-2, 2), source.randint(1, 3)), any_term(source, letters, degree, depth - 1))
    return letter(source.choice(letters)) if source.randint(0, 9) else NOTHING


def plain_beside(products, others):
    """The products of rows that are one of the one table, then one of the other."""
    one, other = len(products), len(others)
    ends = row(*[0] * (one + other))
    return [[entries + row(*[0] * other) for entries in lists] + [ends] * other for lists in products] + [
        [ends] * one + [row(*[0] * one) + entries for entries in lists] for lists in others]


def all_products(products, ones, others):
    return [plain_product(products, one, other) for one in ones for other in others]


def plain_closed(products, lists, kind):
    """The list of the forms from that of the rows on, each with its own products or those at the sides, as it grows."""
    units, forms = plain_units(len(products)), [plain_form(lists)]
    while True:
        last = forms[-1]
        more = {
            "own": lambda: all_products(products, last, last), "left": lambda: all_products(products, units, last),
            "right": lambda: all_products(products, last, units),
            "both": lambda: all_products(products, units, last) + all_products(products, last, units),
        }[kind]()
        if len(plain_form(last + more)) == len(last):
            return forms
        forms.append(plain_form(last + more))


def any_products_with_a_side(source, size, many, most=3, below=2):
    """Drawn products in which the last so many units span a two-sided part."""
    def entry(place, i, j):
        inside = max(i, j) >= size - many
        return n(source.randint(-most, most), source.randint(1, below)) if place >= size - many or not inside else n(0)
    return [[[entry(place, i, j) for place in range(size)] for j in range(size)] for i in range(size)]
