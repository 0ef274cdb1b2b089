"""Questions with finitely many answers, and the remainders of all answers."""

from stillknown.asked import check_question
from stillknown.errors import BadModulus, BadNumber, BadWanted, Endless, TooMany
from stillknown.least import least_form
from stillknown.leastforms import made_least
from stillknown.ownforms import answer_by, row_table, rows_taken, turned_form
from stillknown.pieces import seen_apart, words_ahead, words_behind
from stillknown.remainders import common_remainder, leads_to, words_for
from stillknown.tables import dot, multiplied, row_through, units
from stillknown.turns import are_endless, turned_apart
from stillknown.values import is_key_of, is_list, is_number, is_row_list, is_tuple_of, is_within
from stillknown.wheels import (
    MOST_STATES, is_machine, is_right_wheel, kinds_of, machine_of, machine_walk, pattern_in, wheel_of,
)

LONGEST_TURN = 4
MOST_ROWS = 40
MOST_SHOWN = 60


def hinge(book, question):
    """A kind between row lists with a row of which the answer changes with its number; None if there is none."""
    return hinge_in(least_form(book, question), book.degree_of(question))


def hinge_in(form, degree):
    """A hinge of the fewest rows, given a least form."""
    found = None
    behinds = words_behind(form, degree)
    for kind in kinds_of(form):
        still = row_table(form, (kind, 0))
        moved = [row_table(form, (kind, number)) for number in range(1, degree + 1)]
        for ahead, row in words_ahead(form, degree):
            for behind, column in behinds:
                if found is None or len(ahead) + len(behind) < len(found[0]) + len(found[2]):
                    answer = dot(row_through(row, still), column)
                    if not all([dot(row_through(row, table), column) == answer for table in moved]):
                        found = (list(ahead), kind, list(behind))
    return found


def climb(book, question):
    """Rows that lead to endlessly many answers if they come again and again; None if there are none."""
    return climb_in(least_form(book, question))


def climb_in(form):
    """A climb of rows with the number 0, given a form."""
    begin, tables, end = form
    flat = made_least((begin, {kind: (tables[kind][0],) for kind in tables}, end))
    layer = [([], units(len(flat[0])))]
    for _ in range(LONGEST_TURN):
        layer = [
            (rows + [(kind, 0)], multiplied(table, flat[1][kind][0]))
            for rows, table in layer for kind in kinds_of(flat)
        ]
        for rows, table in layer:
            apart = turned_apart(table)
            if apart is not None:
                ahead, behind = seen_apart(flat, 0, apart)
                return ahead, rows, behind
    return None


def finite_paper(book, question):
    """The machine, or what shows that there are endlessly many answers."""
    form = least_form(book, question)
    found = hinge_in(form, book.degree_of(question))
    if found is not None:
        return "hinge", found
    walk = machine_walk(form)
    if walk is not None:
        return "machine", machine_of(form, walk)
    found = climb_in(form)
    if found is None:
        raise TooMany(MOST_STATES)
    return "climb", found


def machine(book, question):
    """The right machine with the fewest states; None if there are endlessly many answers."""
    word, paper = finite_paper(book, question)
    return paper if word == "machine" else None


def all_answers(book, question):
    """All answers, ascending; None if there are endlessly many."""
    found = machine(book, question)
    return None if found is None else tuple(sorted(set(found[0])))


def rows_for(book, question, number):
    """The fewest rows, with the number 0, for which the question answers this number; None if there are none."""
    check_question(book, question)
    if not is_number(number):
        raise BadNumber("number")
    found = machine(book, question)
    if found is None:
        raise Endless("there are endlessly many answers")
    if number not in found[0]:
        return None
    _, trails, _ = machine_walk(least_form(book, question))
    kinds = book.kinds
    return [(kinds[at], 0) for at in trails[found[0].index(number)]]


def is_finite_paper(book, question, thing):
    """Whether any value is a right machine, a hinge or a climb."""
    form = least_form(book, question)
    if not is_tuple_of(thing, 2) or not isinstance(thing[0], str):
        return False
    word, paper = thing
    if word == "machine":
        return is_machine(form, book.degree_of(question), paper)
    if word == "hinge":
        return is_hinge(book, form, book.degree_of(question), paper)
    return word == "climb" and is_climb(book, form, paper)


def is_few_rows(book, value):
    """Whether a value is a row list of at most 40 rows."""
    return is_row_list(book.kinds, value) and len(value) <= MOST_ROWS


def is_hinge(book, form, degree, value):
    """Whether a value is a hinge."""
    if not is_tuple_of(value, 3) or not is_key_of(value[1], book.kinds):
        return False
    ahead, kind, behind = value
    if not is_few_rows(book, ahead) or not is_few_rows(book, behind):
        return False
    answers = [
        answer_by(form, list(ahead) + [(kind, number)] + list(behind)) for number in range(degree + 1)
    ]
    return not all([answer == answers[0] for answer in answers])


def is_climb(book, form, value):
    """Whether a value is a climb."""
    if not is_tuple_of(value, 3) or not all([is_few_rows(book, rows) for rows in value]):
        return False
    ahead, rows, behind = value
    if not 1 <= len(rows) <= LONGEST_TURN:
        return False
    table = units(len(form[0]))
    for row in rows:
        table = multiplied(table, row_table(form, row))
    return are_endless(rows_taken(form, ahead), table, rows_taken(turned_form(form), behind[::-1]))


def check_modulus(book, question, modulus):
    """Refuse what is no question of a book, and what is no modulus."""
    check_question(book, question)
    if not is_within(modulus, 2, 12):
        raise BadModulus("no number from 2 to 12")


def wheel(book, question, modulus):
    """The right wheel with the fewest states."""
    check_modulus(book, question, modulus)
    found = wheel_of(least_form(book, question), book.degree_of(question), modulus)
    if found is None:
        raise TooMany(MOST_STATES)
    return found


def is_wheel(book, question, modulus, thing):
    """Whether any value is a right wheel of at most 200 states."""
    check_modulus(book, question, modulus)
    return is_right_wheel(least_form(book, question), book.degree_of(question), modulus, thing)


def pattern_of(book, question, modulus, wanted):
    """The pattern of the row lists whose answers leave one of the wanted remainders; None if there is none."""
    check_modulus(book, question, modulus)
    if not is_list(wanted) or not all([is_within(number, 0, modulus - 1) for number in wanted]):
        raise BadWanted("no list of numbers from 0 to modulus - 1")
    if not all([wanted.count(number) == 1 for number in wanted]):
        raise BadWanted("a number stands there twice")
    return pattern_in(wheel(book, question, modulus), wanted)


def common(book, question):
    """The greatest modulus by which all answers leave one remainder, this remainder, and what shows it."""
    form = least_form(book, question)
    degree = book.degree_of(question)
    modulus, remainder = common_remainder(form, degree)
    return modulus, remainder, words_for(form, degree, modulus)


def is_common(book, question, thing):
    """Whether any value is the greatest such modulus, its remainder, and what shows it."""
    form = least_form(book, question)
    if not is_tuple_of(thing, 3) or not is_number(thing[0]) or not is_number(thing[1]) or not is_list(thing[2]):
        return False
    modulus, remainder, shown = thing
    if not 1 <= len(shown) <= MOST_SHOWN or not all([is_few_rows(book, rows) for rows in shown]) or len(shown[0]) > 0:
        return False
    if (modulus, remainder) != common_remainder(form, book.degree_of(question)):
        return False
    return leads_to([answer_by(form, rows) for rows in shown]) == modulus
