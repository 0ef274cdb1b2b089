"""What is still known of rows that were folded, or crowds that refute it."""

from math import lcm

from stillknown.asked import check_book, check_question
from stillknown.errors import BadNumbers, NotKnown
from stillknown.hanging import column_apart, hang_all, hung_on
from stillknown.leastforms import made_least
from stillknown.ownforms import answer_by, are_numbers, own_form
from stillknown.pasts import Past, check_among, check_keep, is_let_by
from stillknown.pieces import words_behind
from stillknown.tables import Span, dot
from stillknown.values import checked_rows, is_list, is_number, is_row_list, is_tuple_of


def check_numbers(keep, numbers):
    """Refuse what is no tuple of as many numbers as the keep has pairs."""
    if not are_numbers(numbers, len(keep)):
        raise BadNumbers("not as many numbers as the keep has pairs")


def folded(book, keep, rows):
    """The numbers that are kept of the rows."""
    check_book(book)
    check_keep(book, keep)
    listed = checked_rows(book.kinds, rows)
    forms = {name: made_least(own_form(book, book.questions[name])) for name, _ in keep}
    return tuple([answer_by(forms[name], listed + list(behind)) for name, behind in keep])


def told_from(past, numbers, wish):
    """What a wish is, over how much, if these are the kept numbers; refused if it does not hang on them."""
    found = hung_on(past.kept, wish)
    if found is None:
        raise NotKnown("it is not told by what is kept")
    return dot(found[1], (1,) + numbers), found[0]


def whole_of(total, over):
    """The total divided by over, if it is whole then."""
    if total // over * over != total:
        raise BadNumbers("the answer is not whole")
    return total // over


def tell(book, keep, numbers, expression, rows, *, among=None):
    """The answer for the folded rows and these ones, told from the kept numbers."""
    check_book(book)
    check_keep(book, keep)
    check_numbers(keep, numbers)
    check_question(book, expression)
    listed = checked_rows(book.kinds, rows)
    check_among(book, among)
    past = Past(book, keep, [expression], among)
    total, over = told_from(past, numbers, past.told(0, listed))
    return whole_of(total, over)


def asked_past(book, keep, expression, among):
    """The past for one expression, behind the errors of these parameters."""
    check_book(book)
    check_keep(book, keep)
    check_question(book, expression)
    check_among(book, among)
    return Past(book, keep, [expression], among)


def behind_rows(book, keep, expression, rows, among):
    """The past for one expression, and the rows behind it as a list."""
    check_book(book)
    check_keep(book, keep)
    check_question(book, expression)
    listed = checked_rows(book.kinds, rows)
    return asked_past(book, keep, expression, among), listed


def knows(book, keep, expression, rows=(), *, among=None):
    """Whether an expression is told behind these rows, and with any further rows after them."""
    past, listed = behind_rows(book, keep, expression, rows, among)
    return hang_all(past.kept, past.ends_behind(0, listed))


def record(book, keep, expression, *, among=None):
    """Lines that tell an expression behind as few row lists as can be, from which all else is told."""
    past = asked_past(book, keep, expression, among)
    if not hang_all(past.kept, past.ends_behind(0, [])):
        return None
    behinds, found = [], []
    span = Span()
    span.take([1] * len(past.spanning))
    for behind in [[]] + [word for word, _ in words_behind(past.forms[0], book.degree_of(expression))]:
        told = past.told(0, behind)
        if span.take(told) or len(behinds) == 0:
            behinds.append(list(behind))
            found.append(hung_on(past.kept, told))
    over = 1
    for line in found:
        over = lcm(over, line[0])
    lines = [tuple([over // own * number for number in numbers]) for own, numbers in found]
    return over, tuple(behinds), tuple(lines)


def is_record_form(book, keep, value):
    """Whether a value has the form of a record."""
    if not is_tuple_of(value, 3):
        return False
    over, behinds, lines = value
    if not is_number(over) or over < 1 or not isinstance(behinds, tuple) or len(behinds) == 0:
        return False
    if not all([is_row_list(book.kinds, behind) for behind in behinds]) or len(behinds[0]) > 0:
        return False
    return is_tuple_of(lines, len(behinds)) and all([are_numbers(line, len(keep) + 1) for line in lines])


def is_record(book, keep, expression, thing, *, among=None):
    """Whether any value is a right record."""
    past = asked_past(book, keep, expression, among)
    if not is_record_form(book, keep, thing):
        return False
    over, behinds, lines = thing
    seen = [past.told(0, behind) for behind in behinds]
    for told, line in zip(seen, lines):
        if [over * answer for answer in told] != [dot(line, column) for column in zip(*past.kept)]:
            return False
    return hang_all([[1] * len(past.spanning)] + seen, past.ends_behind(0, []))


def crowds(book, keep, expression, rows=(), *, among=None):
    """Two crowds that agree in all that is kept, and differ in the expression behind these rows."""
    past, listed = behind_rows(book, keep, expression, rows, among)
    for behind, _ in words_behind(past.forms[0], book.degree_of(expression)):
        column = column_apart(past.kept, past.told(0, listed + behind))
        if column is not None:
            pairs = [(number, list(word)) for number, (word, _) in zip(column, past.spanning)]
            one = [pair for pair in pairs if pair[0] > 0]
            other = [(-number, word) for number, word in pairs if number < 0]
            return one, other, listed + behind
    return None


def is_crowd(book, value, among):
    """Whether a value is a list of pairs of a count and a row list that is let."""
    if not is_list(value):
        return False
    for pair in value:
        if not is_tuple_of(pair, 2) or not is_number(pair[0]) or pair[0] < 1:
            return False
        if not is_row_list(book.kinds, pair[1]) or not is_let_by(book, among, pair[1]):
            return False
    return True


def total_of(form, crowd, behind):
    """The total of the answers for the rows of a crowd with some rows behind them."""
    return sum([count * answer_by(form, list(rows) + list(behind)) for count, rows in crowd])


def are_crowds(book, keep, expression, thing, rows=(), *, among=None):
    """Whether any value is crowds that refute an expression behind these rows."""
    check_book(book)
    check_keep(book, keep)
    check_question(book, expression)
    listed = checked_rows(book.kinds, rows)
    check_among(book, among)
    if not is_tuple_of(thing, 3) or not is_crowd(book, thing[0], among) or not is_crowd(book, thing[1], among):
        return False
    one, other, behind = thing
    if not is_row_list(book.kinds, behind) or list(behind)[:len(listed)] != listed:
        return False
    if sum([pair[0] for pair in one]) != sum([pair[0] for pair in other]):
        return False
    for name, kept_behind in keep:
        form = made_least(own_form(book, book.questions[name]))
        if total_of(form, one, kept_behind) != total_of(form, other, kept_behind):
            return False
    form = made_least(own_form(book, expression))
    return total_of(form, one, behind) != total_of(form, other, behind)
