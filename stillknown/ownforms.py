"""Forms, and the form that an expression has by its words, as large as its bound."""

from stillknown.tables import (
    added, dot, each_by_each, in_blocks, mirrored, row_by_row, row_through, scaled, units, zeros,
)
from stillknown.values import is_number, is_tuple_of

# A form is a triple (begin, tables, end): tables has for each kind one table for each power.
LARGEST = 6
MOST_TABLES = 5


def are_numbers(value, many):
    """Whether a value is a tuple of so many numbers."""
    return is_tuple_of(value, many) and all([is_number(number) for number in value])


def is_table(value, size):
    """Whether a value is a square table."""
    return is_tuple_of(value, size) and all([are_numbers(line, size) for line in value])


def are_tables(value, size):
    """Whether a value is a tuple of tables as one kind has them."""
    if not isinstance(value, tuple) or not 1 <= len(value) <= MOST_TABLES:
        return False
    return all([is_table(table, size) for table in value])


def is_form(kinds, value):
    """Whether a value is a form over the kinds."""
    if not is_tuple_of(value, 3):
        return False
    begin, tables, end = value
    if not isinstance(begin, tuple) or len(begin) > LARGEST:
        return False
    size = len(begin)
    if not are_numbers(begin, size) or not are_numbers(end, size):
        return False
    if not isinstance(tables, dict) or len(tables) != len(kinds):
        return False
    return all([kind in tables and are_tables(tables[kind], size) for kind in kinds])


def power_table(form, kind, power):
    """The table of a kind that is taken times a power of the row's number."""
    begin, tables, _ = form
    if power < len(tables[kind]):
        return tables[kind][power]
    return zeros(len(begin), len(begin))


def row_table(form, row):
    """The table of a row."""
    kind, number = row
    table = zeros(len(form[0]), len(form[0]))
    for one in reversed(form[1][kind]):
        table = added(scaled(number, table), one)
    return table


def row_taken(form, behind, row):
    """A row of numbers times the table of a row."""
    kind, number = row
    out = (0,) * len(behind)
    for table in reversed(form[1][kind]):
        more = row_through(behind, table)
        out = tuple([number * have + new for have, new in zip(out, more)])
    return out


def rows_taken(form, rows):
    """Begin times the tables of the rows."""
    behind = form[0]
    for row in rows:
        behind = row_taken(form, behind, row)
    return behind


def answer_by(form, rows):
    """What a form answers for a row list."""
    return dot(rows_taken(form, rows), form[2])


def turned_form(form):
    """The form for the rows turned round."""
    begin, tables, end = form
    return end, {kind: tuple([mirrored(table) for table in tables[kind]]) for kind in tables}, begin


def times_form(number, form):
    """The form for so many times the answers."""
    begin, tables, end = form
    return tuple([number * x for x in begin]), tables, end


def with_tables(one, other, build):
    """For each kind the tables that build makes of the tables of both forms for each power."""
    tables = {}
    for kind in one[1]:
        many = max(len(one[1][kind]), len(other[1][kind]))
        tables[kind] = tuple([
            build(power_table(one, kind, power), power_table(other, kind, power)) for power in range(many)
        ])
    return tables


def plus_form(one, other):
    """The form for the sum of the answers of both."""
    sizes = len(one[0]), len(other[0])

    def build(left, right):
        return in_blocks(left, zeros(*sizes), zeros(sizes[1], sizes[0]), right)

    return one[0] + other[0], with_tables(one, other, build), one[2] + other[2]


def both_form(one, other):
    """The form for the product of the answers of both."""
    size = len(one[0]) * len(other[0])
    tables = {}
    for kind in one[1]:
        firsts, seconds = one[1][kind], other[1][kind]
        sums = [zeros(size, size)] * (len(firsts) + len(seconds) - 1)
        for power, first in enumerate(firsts):
            for more, second in enumerate(seconds):
                sums[power + more] = added(sums[power + more], each_by_each(first, second))
        tables[kind] = tuple(sums)
    return row_by_row(one[0], other[0]), tables, row_by_row(one[2], other[2])


def cuts_form(one, other):
    """The form for the sum over all cuts: what is begun ahead of the cut, beside what is behind it."""
    sizes = len(one[0]), len(other[0])

    def build(left, right):
        over = [dot(line, one[2]) for line in left]
        crossing = [row_by_row((number,), other[0]) for number in over]
        return in_blocks(left, crossing, zeros(sizes[1], sizes[0]), right)

    begin = one[0] + row_by_row((dot(one[0], one[2]),), other[0])
    return begin, with_tables(one, other, build), (0,) * sizes[0] + other[2]


def star_form(form):
    """The form for all cuts in parts: what is begun behind the last cut, beside the sum up to here."""
    begin, tables, end = form
    size = len(begin)

    def build(table):
        first = row_through(begin, table)
        closed = [(dot(line, end),) for line in table]
        return in_blocks(table, closed, (first,), ((dot(first, end),),))

    built = {kind: tuple([build(table) for table in tables[kind]]) for kind in tables}
    return (0,) * size + (1,), built, (0,) * size + (1,)


def without_form(kind, form):
    """The form for the rows that are not of a kind."""
    begin, tables, end = form
    return begin, {some: (units(len(begin)),) if some == kind else tables[some] for some in tables}, end


def only_form(pattern, form):
    """The form for the rows that fit a pattern: one row of numbers for each state."""
    begin, tables, end = form
    states = range(pattern.states)
    steps = pattern.steps
    moved = {}
    for kind in tables:
        moves = [[1 if steps[kind][state] == to else 0 for to in states] for state in states]
        moved[kind] = tuple([each_by_each(moves, table) for table in tables[kind]])
    first = [1 if state == 0 else 0 for state in states]
    good = [1 if state in pattern.good else 0 for state in states]
    return row_by_row(first, begin), moved, row_by_row(good, end)


def loop_form(loop):
    """The form of a loop: 1 and its variables."""
    names = ("",) + loop.variables
    steps = loop.steps
    tables = {kind: sums_tables(names, steps[kind]) for kind in steps}
    start = loop.start
    begin = (1,) + tuple([start[name] for name in loop.variables])
    return begin, tables, tuple([coefficient_in(loop.last, name, 0) for name in names])


def sums_tables(names, sums):
    """The tables for the sums of one kind, one for each power up to the greatest one."""
    powers = [term[1] for terms in sums.values() for term in terms]
    return tuple([sums_table(names, sums, power) for power in range(max(powers, default=0) + 1)])


def sums_table(names, sums, power):
    """The table of one power: a column for 1 and for each variable."""
    columns = [tuple([1 if name == "" and power == 0 else 0 for name in names])]
    for name in names[1:]:
        columns.append(tuple([coefficient_in(sums[name], other, power) for other in names]))
    return mirrored(columns)


def coefficient_in(terms, name, power):
    """The coefficient with which a variable and a power stand in a sum."""
    return sum([term[2] for term in terms if term[0] == name and term[1] == power])


def own_form(book, expression):
    """The form that an expression over a book has by its words."""
    return built_form(book.loops, book.patterns, expression)


def built_form(loops, patterns, expression):
    """The form of an expression over loops and patterns."""
    if isinstance(expression, str):
        return loop_form(loops[expression])
    word, first = expression[0], expression[1]
    if word == "star" or word == "turned":
        inner = built_form(loops, patterns, first)
        return star_form(inner) if word == "star" else turned_form(inner)
    second = built_form(loops, patterns, expression[2])
    if word == "times":
        return times_form(first, second)
    if word == "without":
        return without_form(first, second)
    if word == "only":
        return only_form(patterns[first], second)
    inner = built_form(loops, patterns, first)
    if word == "plus":
        return plus_form(inner, second)
    return both_form(inner, second) if word == "both" else cuts_form(inner, second)
