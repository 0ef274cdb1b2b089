"""Exchange: rows that may change places, become one row or be left out, in all surroundings."""

from itertools import combinations

from stillknown.asked import check_book, check_kind, check_name, is_reading
from stillknown.errors import BadOrder, BadSide, TooMany
from stillknown.leastforms import made_least, row_letters
from stillknown.ownforms import own_form, power_table, row_table
from stillknown.pieces import (
    blocks_of, degree_of_book, forms_of, joined_blocks, reading_apart, row_blocks, seen_by, unit_blocks, value_at,
)
from stillknown.roots import shared_roots
from stillknown.tables import multiplied, units
from stillknown.values import checked_rows, is_list, is_number, is_tuple_of, is_within

SHARES = (-1, 0, 1)
MOST_THINNED = 10


def may_change(book, kind, other):
    """Whether a row of a kind and one of another kind behind it may change places, whatever their numbers."""
    return change_apart(book, kind, other) is None


def changes(book):
    """The pairs of kinds, ascending, that may change places."""
    check_book(book)
    forms, degree = forms_of(book), degree_of_book(book)
    pairs = [(kind, other) for kind in book.kinds for other in book.kinds if kind <= other]
    return [pair for pair in pairs if first_apart(forms, degree, pair[0], pair[1]) is None]


def first_apart(forms, degree, kind, other):
    """Numbers x and y and the blocks of both orders, if they are not the same; None if they always are."""
    ones = [row_blocks(forms, (kind, number)) for number in range(degree + 1)]
    others = [row_blocks(forms, (other, number)) for number in range(degree + 1)]
    for x, one in enumerate(ones):
        for y, two in enumerate(others):
            ahead, behind = joined_blocks(one, two), joined_blocks(two, one)
            if ahead != behind:
                return x, y, ahead, behind
    return None


def change_apart(book, kind, other):
    """Two numbers and a reading that sees the two rows change places; None if none does."""
    check_book(book)
    check_kind(book, kind)
    check_kind(book, other)
    forms, degree = forms_of(book), degree_of_book(book)
    found = first_apart(forms, degree, kind, other)
    if found is None:
        return None
    x, y, ahead, behind = found
    return x, y, reading_apart(forms, degree, ahead, behind)


def is_change_apart(book, kind, other, thing):
    """Whether any value is two numbers and a reading that sees the two rows change places."""
    check_book(book)
    check_kind(book, kind)
    check_kind(book, other)
    if not is_tuple_of(thing, 3) or not is_reading(book, thing[2]):
        return False
    x, y, (name, surrounding) = thing
    if not is_number(x) or not is_number(y) or max(abs(x), abs(y)) >= 10 ** 30:
        return False
    form = made_least(own_form(book, book.questions[name]))
    one, two = row_table(form, (kind, x)), row_table(form, (other, y))
    ends = seen_by(form, surrounding)
    return value_at(ends, multiplied(one, two)) != value_at(ends, multiplied(two, one))


def bound_places(book, rows):
    """For each row the places ahead of it with rows that it may not change places with."""
    let = changes(book)
    pairs = let + [(other, kind) for kind, other in let]
    return [[at for at in range(place) if (rows[at][0], rows[place][0]) not in pairs] for place in range(len(rows))]


def is_let(book, rows, order):
    """Whether each two rows that may not change places stand in an order as they stood before."""
    check_book(book)
    listed = checked_rows(book.kinds, rows)
    if not is_list(order) or len(order) != len(listed):
        raise BadOrder("not as many indexes as rows")
    if not all([is_within(at, 0, len(listed) - 1) for at in order]) or len(set(order)) < len(listed):
        raise BadOrder("no list of the indexes, each once")
    stands = {at: place for place, at in enumerate(order)}
    bound = bound_places(book, listed)
    return all([stands[ahead] < stands[at] for at in range(len(listed)) for ahead in bound[at]])


def least_order(book, rows):
    """The least row list that is a let order."""
    check_book(book)
    listed = checked_rows(book.kinds, rows)
    bound = bound_places(book, listed)
    left = list(range(len(listed)))
    out = []
    while len(left) > 0:
        ready = [at for at in left if not any([ahead in left for ahead in bound[at]])]
        least = min([listed[at] for at in ready])
        out.append(least)
        left.remove([at for at in ready if listed[at] == least][0])
    return out


def mergings(book, kind, other):
    """All ways in which a row and one behind it may become one row, whatever their numbers."""
    check_book(book)
    check_kind(book, kind)
    check_kind(book, other)
    forms = forms_of(book)
    numbers = range(degree_of_book(book) + 1)
    wanted = [
        (x, y, blocks_of(forms, [(kind, x), (other, y)])) for x in numbers for y in numbers
    ]
    found = []
    for one in book.kinds:
        made = {}
        for shares in [(a, b, c) for a in SHARES for b in SHARES for c in SHARES]:
            if merges(forms, one, made, shares, wanted):
                found.append((one,) + shares)
    return found


def merges(forms, kind, made, shares, wanted):
    """Whether the one row has all the wanted blocks; made keeps those of its numbers."""
    a, b, c = shares
    for x, y, blocks in wanted:
        number = a * x + b * y + c
        if number not in made:
            made[number] = row_blocks(forms, (kind, number))
        if made[number] != blocks:
            return False
    return True


def undoings(book, kind):
    """All ways in which a row behind one of this kind undoes it, whatever its number."""
    check_book(book)
    check_kind(book, kind)
    forms = forms_of(book)
    nothing = unit_blocks(forms)
    numbers = range(2 * degree_of_book(book) + 1)
    found = []
    for one, a, c in [(one, a, c) for one in book.kinds for a in SHARES for c in SHARES]:
        if all([blocks_of(forms, [(kind, x), (one, a * x + c)]) == nothing for x in numbers]):
            found.append((one, a, c))
    return found


def numbers_with(forms, kind, blocks):
    """The numbers, ascending, with which a row of a kind has these blocks; None if it has them with all."""
    polynomials = []
    for key in forms:
        powers = [power_table(forms[key], kind, power) for power in range(len(forms[key][1][kind]))]
        for at, line in enumerate(blocks[key]):
            for place, number in enumerate(line):
                terms = [table[at][place] for table in powers]
                polynomials.append([terms[0] - number] + terms[1:])
    return shared_roots(polynomials)


def idle_numbers(book, kind):
    """The numbers with which a row of this kind may be left out; None if it may be with all."""
    check_book(book)
    check_kind(book, kind)
    forms = forms_of(book)
    return numbers_with(forms, kind, unit_blocks(forms))


def as_one_row(book, piece):
    """The kinds of which a single row may replace the piece, with its numbers, None standing for all."""
    check_book(book)
    rows = checked_rows(book.kinds, piece)
    forms = forms_of(book)
    blocks = blocks_of(forms, rows)
    found = {kind: numbers_with(forms, kind, blocks) for kind in book.kinds}
    return {kind: found[kind] for kind in found if found[kind] is None or len(found[kind]) > 0}


def thinned(book, rows):
    """The shortest lot of rows that may replace all of them, the least one of these."""
    check_book(book)
    listed = checked_rows(book.kinds, rows)
    if len(listed) > MOST_THINNED:
        raise TooMany(MOST_THINNED)
    forms = forms_of(book)
    wanted = blocks_of(forms, listed)
    single = [row_blocks(forms, row) for row in listed]
    made = {(): unit_blocks(forms)}
    for many in range(len(listed) + 1):
        for lot in combinations(range(len(listed)), many):
            if many > 0:
                made[lot] = joined_blocks(made[lot[:-1]], single[lot[-1]])
            if made[lot] == wanted:
                return lot
    return tuple(range(len(listed)))


def question_form(book, name):
    """The least form of a question, and the rows with their tables that show what is felt."""
    form = made_least(own_form(book, book.questions[name]))
    return form, [table for _, table in row_letters(form, book.degree(name))]


def is_unfelt(table, letters, side):
    """Whether no single row right ahead of a piece, or right behind it, is felt."""
    if side == "ahead":
        return all([multiplied(letter, table) == table for letter in letters])
    return all([multiplied(table, letter) == table for letter in letters])


def check_side(side):
    """Refuse what is no side."""
    if not isinstance(side, str) or side not in ("ahead", "behind"):
        raise BadSide("neither ahead nor behind")


def closes(book, name, piece, side):
    """Whether a piece makes the answer the same for all that is ahead of it, or behind it."""
    check_book(book)
    check_name(book, name)
    rows = checked_rows(book.kinds, piece)
    check_side(side)
    form, letters = question_form(book, name)
    table = units(len(form[0]))
    for row in rows:
        table = multiplied(table, row_table(form, row))
    return is_unfelt(table, letters, side)


def closing_kinds(book, name, side):
    """The kinds, ascending, each row of which closes a question on this side."""
    check_book(book)
    check_name(book, name)
    check_side(side)
    form, letters = question_form(book, name)
    numbers = range(book.degree(name) + 1)
    return [
        kind for kind in book.kinds
        if all([is_unfelt(row_table(form, (kind, number)), letters, side) for number in numbers])
    ]
