"""Forms: begin, a table for each row, end."""

from stillknown.asked import check_question, checked_kinds
from stillknown.errors import BadForm
from stillknown.leastforms import same_answers
from stillknown.ownforms import answer_by, is_form, own_form
from stillknown.values import checked_rows


def form_answer(kinds, form, rows):
    """What a form over some kinds answers for a row list."""
    known = checked_kinds(kinds)
    if not is_form(known, form):
        raise BadForm("no form over the kinds")
    return answer_by(form, checked_rows(known, rows))


def is_form_of(book, question, thing):
    """Whether any value is a form that answers as the question does for all row lists."""
    check_question(book, question)
    return is_form(book.kinds, thing) and same_answers(own_form(book, question), thing)
