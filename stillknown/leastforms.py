"""Forms made as small as can be, and words of rows or powers that show it."""

from stillknown.lattices import closed_lattice
from stillknown.ownforms import plus_form, power_table, row_table, times_form, turned_form
from stillknown.tables import Span, dot, row_through


def reached_form(form):
    """A form with the same answers, as small as the rows of numbers that begin leads to let it be."""
    begin, tables, end = form
    steps = [(table, 1) for kind in tables for table in tables[kind]]
    lattice = closed_lattice(begin, steps)
    lines = lattice.basis()
    small = {}
    for kind in tables:
        small[kind] = tuple([
            tuple([lattice.shares(row_through(line, table)) for line in lines]) for table in tables[kind]
        ])
    return lattice.shares(begin), small, tuple([dot(line, end) for line in lines])


def made_least(form):
    """A form of whole numbers with the same answers and the least size."""
    # Once from begin, once from end: what is then left is come to and is seen.
    return turned_form(reached_form(turned_form(reached_form(form))))


def row_letters(form, degree):
    """The pairs of a row and its table, ascending, for the numbers from 0 to degree."""
    rows = [(kind, number) for kind in sorted(form[1]) for number in range(degree + 1)]
    return [(row, row_table(form, row)) for row in rows]


def power_letters(form, most):
    """The pairs of (kind, power) and its table, ascending, for so many powers."""
    signs = [(kind, power) for kind in sorted(form[1]) for power in range(most)]
    return [(sign, power_table(form, sign[0], sign[1])) for sign in signs]


def free_words(begin, letters):
    """The words whose rows of numbers hang on none of those of words ahead of them, with these rows.

    Words stand by length, then ascending. What hangs on others still does behind any further
    letter, so only words that are kept themselves are made longer.
    """
    span = Span()
    kept = [((), begin)] if span.take(begin) else []
    at = 0
    while at < len(kept):
        word, row = kept[at]
        at += 1
        for letter, table in letters:
            longer = row_through(row, table)
            if span.take(longer):
                kept.append((word + (letter,), longer))
    return kept


def most_tables(form):
    """The greatest number of tables of one kind."""
    return max([len(tables) for tables in form[1].values()])


def difference(one, other):
    """The form for the answers of one less those of the other."""
    return plus_form(one, times_form(-1, other))


def least_apart(one, other, degree):
    """The first row list by length, then ascending, with numbers up to degree that parts two forms."""
    form = difference(one, other)
    for rows, behind in free_words(form[0], row_letters(form, degree)):
        if dot(behind, form[2]) != 0:
            return list(rows)
    return None


def same_answers(one, other):
    """Whether two forms over the same kinds answer the same for all row lists."""
    form = difference(one, other)
    # Answers are polynomials in the rows' numbers: they are the same if all coefficients are.
    words = free_words(form[0], power_letters(form, most_tables(form)))
    return all([dot(behind, form[2]) == 0 for _, behind in words])
