"""Least forms of questions; questions that are alike; questions learned by their answers."""

from stillknown.asked import check_question, checked_kinds
from stillknown.errors import BadForm, BadNumber
from stillknown.learning import learned_form
from stillknown.leastforms import (
    free_words, least_apart, made_least, most_tables, power_letters, row_letters, same_answers,
)
from stillknown.ownforms import is_form, own_form, rows_taken, turned_form
from stillknown.tables import Span, row_through, solved
from stillknown.values import is_list, is_row_list, is_tuple_of, is_within


def least_size(book, question):
    """The least size of a form of the question."""
    return len(least_form(book, question)[0])


def least_form(book, question):
    """A form of the question of the least size."""
    check_question(book, question)
    return made_least(own_form(book, question))


def least_shown(book, question):
    """Row lists ahead and behind for which the table of the answers is regular."""
    form = least_form(book, question)
    degree = book.degree_of(question)
    turned = turned_form(form)
    aheads = [list(word) for word, _ in free_words(form[0], row_letters(form, degree))]
    behinds = [list(word[::-1]) for word, _ in free_words(turned[0], row_letters(turned, degree))]
    return aheads, behinds


def is_least_shown(book, question, thing):
    """Whether any value is a pair of as many aheads and behinds that show the least size."""
    form = least_form(book, question)
    if not is_tuple_of(thing, 2):
        return False
    for lists in thing:
        if not is_list(lists) or len(lists) != len(form[0]):
            return False
        if not all([is_row_list(book.kinds, rows) for rows in lists]):
            return False
    # The table is the product of what the aheads lead to and what the behinds see of it.
    turned = turned_form(form)
    aheads = [rows_taken(form, rows) for rows in thing[0]]
    behinds = [rows_taken(turned, rows[::-1]) for rows in thing[1]]
    return are_free(aheads) and are_free(behinds)


def are_free(rows):
    """Whether none of some rows of numbers hangs on the others."""
    span = Span()
    return all([span.take(row) for row in rows])


def picture(book, question, one_form, other_form):
    """The one table of fractions that leads from one least form to another one, and its divisor."""
    own = least_form(book, question)
    for form in (one_form, other_form):
        if not is_form(book.kinds, form) or len(form[0]) != len(own[0]) or not same_answers(own, form):
            raise BadForm("no least form of the question")
    most = max(most_tables(one_form), most_tables(other_form))
    tables = {sign: table for sign, table in power_letters(other_form, most)}
    lines, pictured = [], []
    for word, row in free_words(one_form[0], power_letters(one_form, most)):
        other = other_form[0]
        for sign in word:
            other = row_through(other, tables[sign])
        lines.append(row)
        pictured.append(other)
    return solved(lines, pictured)


def alike(book, one, other):
    """Whether two questions answer the same for all row lists."""
    check_question(book, one)
    check_question(book, other)
    return same_answers(own_form(book, one), own_form(book, other))


def parted(book, one, other):
    """A shortest row list for which two questions answer otherwise, None if they are alike."""
    check_question(book, one)
    check_question(book, other)
    degree = max(book.degree_of(one), book.degree_of(other))
    return least_apart(own_form(book, one), own_form(book, other), degree)


def learned(ask, kinds, size, degree):
    """A least form of the question of which ask gives the answers."""
    known = checked_kinds(kinds)
    if not is_within(size, 0, 3):
        raise BadNumber("size")
    if not is_within(degree, 0, 2):
        raise BadNumber("degree")
    return learned_form(ask, known, size, degree)
