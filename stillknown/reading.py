"""What must be read again so that expressions are known, and keeps that last."""

from stillknown.asked import check_book, check_question
from stillknown.errors import BadExpressions
from stillknown.known import check_numbers, told_from, whole_of
from stillknown.ownforms import row_table
from stillknown.pasts import Past, check_among, check_keep
from stillknown.pieces import words_behind
from stillknown.tables import Span, dot
from stillknown.values import checked_rows, is_list

MOST_EXPRESSIONS = 4


def to_read(book, keep, expressions, *, among=None):
    """As few answers as can be that must be kept, too, so that all these expressions are known."""
    check_book(book)
    check_keep(book, keep)
    if not is_list(expressions) or not 1 <= len(expressions) <= MOST_EXPRESSIONS:
        raise BadExpressions("no list of 1 to 4 expressions")
    for expression in expressions:
        check_question(book, expression)
    check_among(book, among)
    past = Past(book, keep, expressions, among)
    span = Span()
    for told in past.kept:
        span.take(told)
    found = []
    for index, expression in enumerate(expressions):
        for behind, column in words_behind(past.forms[index], book.degree_of(expression)):
            if span.take(past.seen(index, column)):
                found.append((index, behind))
    return found


def lasting(book, keep):
    """As few pairs as can be that make a keep last: it tells itself behind any further row."""
    check_book(book)
    check_keep(book, keep)
    past = Past(book, keep, [], None)
    span = Span()
    for told in past.kept:
        span.take(told)
    letters = [(kind, number) for kind in book.kinds for number in range(past.highest + 1)]
    waiting = [(name, list(behind), past.column(name, behind)) for name, behind in keep]
    found = []
    at = 0
    while at < len(waiting):
        name, behind, column = waiting[at]
        at += 1
        for row in letters:
            # The numbers behind a row are those of the keep with this row ahead of its own ones.
            longer = tuple([dot(line, column) for line in row_table(past.forms[name], row)])
            if span.take(past.seen(name, longer)):
                found.append((name, [row] + behind))
                waiting.append((name, [row] + behind, longer))
    return found


def folded_on(book, keep, numbers, rows):
    """The kept numbers for the folded rows with these ones after them."""
    check_book(book)
    check_keep(book, keep)
    check_numbers(keep, numbers)
    listed = checked_rows(book.kinds, rows)
    past = Past(book, keep, [], None)
    told = [told_from(past, numbers, past.told(name, listed + list(behind))) for name, behind in keep]
    return tuple([whole_of(total, over) for total, over in told])
