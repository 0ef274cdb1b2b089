"""Handing on: the fewest numbers of a piece that join straight, and bars that show that fewer do not."""

from math import gcd

from stillknown.asked import check_book, check_readings, is_reading
from stillknown.errors import BadNumbers, BadPaper, TooMany
from stillknown.ownforms import are_numbers, rows_taken
from stillknown.papers import is_paper
from stillknown.pieces import (
    blocks_of, degree_of_book, forms_of, readings_shown, rows_around, seen_by, spanning_pieces, told_of,
)
from stillknown.tables import Span, dot, free_indexes, mirrored, multiplied, row_through, solved, units
from stillknown.values import checked_rows, is_row_list, is_tuple_of

MOST_HANDED = 12
MOST_JUDGED = 16


def handed(book):
    """The least number of numbers of a right hand-over."""
    check_book(book)
    return len(spanning_pieces(forms_of(book), degree_of_book(book))) - 1


def free_readings(forms, degree, pieces):
    """Readings none of which hangs straight on the others, as many as can be, with what they tell of pieces."""
    offered = [(key, pair) for key in forms for pair in readings_shown(forms[key], key, degree, pieces)]
    span = Span()
    span.take([1] * len(pieces))
    kept = []
    for key, (surrounding, told) in sorted(offered, key=lambda reading: rows_around(reading[1][0])):
        if span.take(told):
            kept.append(((key, surrounding), told))
    return kept


def handed_readings(book, forms):
    """As few readings as can be on which all hang straight, and the spanning pieces."""
    degree = degree_of_book(book)
    pieces = spanning_pieces(forms, degree)
    if len(pieces) - 1 > MOST_HANDED:
        raise TooMany(MOST_HANDED)
    kept = free_readings(forms, degree, pieces)
    lines = [(1,) * len(pieces)] + [told for _, told in kept]
    return tuple([reading for reading, _ in kept]), pieces, mirrored(lines)


def joined_values(forms, readings, pieces):
    """For each reading the table of what it tells of each piece with each piece behind it."""
    tables = []
    for key, surrounding in readings:
        row, column = seen_by(forms[key], surrounding)
        firsts = [row_through(row, blocks[key]) for _, blocks in pieces]
        seconds = [[dot(line, column) for line in blocks[key]] for _, blocks in pieces]
        tables.append(tuple([tuple([dot(first, second) for second in seconds]) for first in firsts]))
    return tables


def answer_values(forms, pieces):
    """For each question its answers for the pieces."""
    return [told_of(forms[key], key, ((), ()), pieces) for key in forms]


def divided(table, common):
    """A table with all its numbers divided by a divisor that they have in common."""
    return tuple([tuple([number // common for number in line]) for line in table])


def hand_over(book):
    """A right hand-over of the fewest numbers."""
    check_book(book)
    forms = forms_of(book)
    readings, pieces, lines = handed_readings(book, forms)
    # What the pieces hand on is a regular table: a join is what stands between it and its mirror.
    back, divisor = solved(lines, units(len(lines)))
    joins = [multiplied(multiplied(back, values), mirrored(back)) for values in joined_values(forms, readings, pieces)]
    answers = [tuple([divisor * dot(shares, told) for shares in back]) for told in answer_values(forms, pieces)]
    over = divisor * divisor
    common = over
    for line in answers + [shares for table in joins for shares in table]:
        for number in line:
            common = gcd(common, number)
    return readings, tuple([divided(table, common) for table in joins]), divided(answers, common), over // common


def is_hand_over(book, thing):
    """Whether any value is a right hand-over of at most 16 numbers."""
    check_book(book)
    if not is_paper(thing):
        return False
    readings, joins, answers, over = thing
    if len(readings) > MOST_JUDGED or len(answers) != len(book.names):
        return False
    if not all([is_reading(book, reading) for reading in readings]):
        return False
    forms = forms_of(book)
    pieces = spanning_pieces(forms, degree_of_book(book))
    lines = mirrored([(1,) * len(pieces)] + [told_of(forms[key], key, where, pieces) for key, where in readings])
    # Both sides are straight in each of the two pieces, so pieces that span are enough.
    for shares, told in zip(answers, answer_values(forms, pieces)):
        if [over * answer for answer in told] != [dot(shares, line) for line in lines]:
            return False
    for table, values in zip(joins, joined_values(forms, readings, pieces)):
        if not joins_right(lines, table, over, values):
            return False
    return True


def joins_right(lines, table, over, values):
    """Whether a join gives over times the values for all pairs of pieces, given what they hand on."""
    for line, wanted in zip(lines, values):
        through = row_through(line, table)
        if [over * value for value in wanted] != [dot(through, other) for other in lines]:
            return False
    return True


def told_at(book, readings, piece):
    """What the readings of a list tell of a piece."""
    check_book(book)
    check_readings(book, readings, None)
    rows = checked_rows(book.kinds, piece)
    forms = forms_of(book)
    told = []
    for key, (ahead, behind) in readings:
        whole = list(ahead) + rows + list(behind)
        told.append(dot(rows_taken(forms[key], whole), forms[key][2]))
    return tuple(told)


def check_paper(paper):
    """Refuse what has not the form of a hand-over."""
    if not is_paper(paper):
        raise BadPaper("not the form of a hand-over")


def check_handed(paper, numbers):
    """Refuse what is no tuple of as many numbers as are handed on."""
    if not are_numbers(numbers, len(paper[0])):
        raise BadNumbers("not as many numbers as readings")


def whole_parts(sums, over):
    """The sums, each divided by over, if they are whole then."""
    if not all([total // over * over == total for total in sums]):
        raise BadNumbers("a number is not whole")
    return tuple([total // over for total in sums])


def joined(paper, one, other):
    """What is handed on of two pieces joined."""
    check_paper(paper)
    check_handed(paper, one)
    check_handed(paper, other)
    first, second = (1,) + one, (1,) + other
    return whole_parts([dot(row_through(first, table), second) for table in paper[1]], paper[3])


def told_answers(paper, one):
    """The answers of the questions, told from what is handed on."""
    check_paper(paper)
    check_handed(paper, one)
    return whole_parts([dot(shares, (1,) + one) for shares in paper[2]], paper[3])


def bar(book):
    """Readings, as many as are handed on, and pieces that show that fewer numbers are not enough."""
    check_book(book)
    readings, pieces, _ = handed_readings(book, forms_of(book))
    return readings, tuple([list(rows) for rows, _ in pieces])


def is_bar(book, thing):
    """Whether any value is a bar of at most 16 readings."""
    check_book(book)
    if not is_tuple_of(thing, 2) or not isinstance(thing[0], tuple) or len(thing[0]) > MOST_JUDGED:
        return False
    readings, rows = thing
    if not is_tuple_of(rows, len(readings) + 1) or not all([is_row_list(book.kinds, piece) for piece in rows]):
        return False
    if not all([is_reading(book, reading) for reading in readings]):
        return False
    forms = forms_of(book)
    pieces = [(piece, blocks_of(forms, piece)) for piece in rows]
    lines = [[1] * len(pieces)] + [told_of(forms[key], key, where, pieces) for key, where in readings]
    return len(free_indexes(lines)) == len(lines)
