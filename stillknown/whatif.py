"""What if: the answer as a polynomial in rows' numbers, and what acts together."""

from stillknown.asked import check_book, check_kind, check_name
from stillknown.errors import BadNumber, BadNumbers, BadPlaces, BadPolynomial, BadTold, NoPlace
from stillknown.leastforms import made_least
from stillknown.ownforms import are_numbers, own_form, power_table, row_table, rows_taken, turned_form
from stillknown.pieces import blocks_of, spanning_pieces, surroundings_of, words_ahead, words_behind
from stillknown.polynomials import (
    MOST_OPEN, coefficients_of, greatest_worth, is_polynomial, least_worth, numbers_at, polynomial_of,
    worth_of_polynomial,
)
from stillknown.roots import shared_roots
from stillknown.tables import added, dot, row_through, scaled
from stillknown.values import checked_rows, is_list, is_number, is_row_list, is_tuple_of, is_within


def form_of(book, name):
    """The least form of a question."""
    return made_least(own_form(book, book.questions[name]))


def checked_question_rows(book, name, rows):
    """The rows as a list, unless the book, the name or the rows are wrong."""
    check_book(book)
    check_name(book, name)
    return checked_rows(book.kinds, rows)


def check_places(rows, places):
    """Refuse what is no list of 1 to 3 different indexes of rows."""
    if not is_list(places) or not 1 <= len(places) <= MOST_OPEN:
        raise BadPlaces(None)
    for at, place in enumerate(places):
        if not is_within(place, 0, len(rows) - 1) or place in places[:at]:
            raise BadPlaces(at)


def what_if(book, name, rows, places):
    """The polynomial in the numbers of the rows at these places that tells the answer."""
    listed = checked_question_rows(book, name, rows)
    check_places(listed, places)
    return polynomial_of(own_form(book, book.questions[name]), listed, list(places))


def worth(polynomial, numbers):
    """The worth of a polynomial at some numbers."""
    if not is_polynomial(polynomial):
        raise BadPolynomial("no dict from powers to coefficients")
    many = [len(powers) for powers in polynomial][:1]
    if not isinstance(numbers, tuple) or not 1 <= len(numbers) <= MOST_OPEN:
        raise BadNumbers("no tuple of 1 to 3 numbers")
    if not are_numbers(numbers, len(numbers)) or (len(many) > 0 and many[0] != len(numbers)):
        raise BadNumbers("not as many numbers as powers")
    return worth_of_polynomial(polynomial, numbers)


def one_open(book, name, rows, place):
    """The coefficients of the polynomial in the number of one row, unless a parameter is wrong."""
    listed = checked_question_rows(book, name, rows)
    if not is_within(place, 0, len(listed) - 1):
        raise NoPlace(place)
    return coefficients_of(polynomial_of(own_form(book, book.questions[name]), listed, [place]))


def numbers_for(book, name, rows, place, goal):
    """The numbers of one row with which the answer is the goal; None if it is with all."""
    coefficients = one_open(book, name, rows, place)
    if not is_number(goal):
        raise BadNumber("goal")
    return numbers_at(coefficients, goal)


def extremes(book, name, rows, place):
    """The least and the greatest answer that some number of one row leads to, with all these numbers."""
    coefficients = one_open(book, name, rows, place)
    return least_worth(coefficients), greatest_worth(coefficients)


def check_told(book, told):
    """Refuse what is no dict from the names of all questions to numbers."""
    if not isinstance(told, dict) or len(told) != len(book.names) or not all([name in told for name in book.names]):
        raise BadTold(None)
    for name in book.names:
        if not is_number(told[name]):
            raise BadTold(name)


def repairs(book, rows, told):
    """The pairs of a place and another number with which all questions answer as told."""
    check_book(book)
    listed = checked_rows(book.kinds, rows)
    check_told(book, told)
    forms = {name: own_form(book, book.questions[name]) for name in book.names}
    found = []
    for place, row in enumerate(listed):
        polynomials = []
        for name in forms:
            coefficients = coefficients_of(polynomial_of(forms[name], listed, [place]))
            polynomials.append([coefficients[0] - told[name]] + coefficients[1:])
        numbers = shared_roots(polynomials)
        if numbers is None:
            found.append((place, None))
        else:
            found.extend([(place, number) for number in numbers if number != row[1]])
    return found


def highest_power(form, kind):
    """The greatest power of a kind's tables that is not all zeros; 0 if there is none from 1 on."""
    powers = [power for power, table in enumerate(form[1][kind]) if any([any(line) for line in table])]
    return max(powers, default=0)


def check_name_and_kind(book, name, kind):
    """Refuse what is no book, no name of a question, or no kind."""
    check_book(book)
    check_name(book, name)
    check_kind(book, kind)


def degree_in(book, name, kind):
    """The greatest power with which the number of a row of this kind stands in the answer."""
    check_name_and_kind(book, name, kind)
    # In a least form all that stands in a table is seen somewhere.
    return highest_power(form_of(book, name), kind)


def degree_shown(book, name, kind):
    """Row lists around a row of this kind with which its number stands there with this power; None for 0."""
    check_name_and_kind(book, name, kind)
    form = form_of(book, name)
    power = highest_power(form, kind)
    if power == 0:
        return None
    table = power_table(form, kind, power)
    turned = turned_form(form)
    for ahead, behind in surroundings_of(form, book.degree(name)):
        if dot(row_through(rows_taken(form, ahead), table), rows_taken(turned, behind[::-1])) != 0:
            return ahead, behind
    return None


def changed_table(form, kind, number):
    """The table of a row, less that of the row with the number 0."""
    return added(row_table(form, (kind, number)), scaled(-1, row_table(form, (kind, 0))))


def check_two_kinds(book, name, one, other):
    """Refuse what is no book, no name of a question, or no kinds."""
    check_name_and_kind(book, name, one)
    check_kind(book, other)


def changed_ends(form, words, kind, degree):
    """For rows of numbers, triples of the rows that lead there, a number and what the change by it leads to."""
    tables = [(number, changed_table(form, kind, number)) for number in range(1, degree + 1)]
    return [(rows, number, row_through(end, table)) for rows, end in words for number, table in tables]


def together_shown(book, name, one, other):
    """Rows with numbers at which a change of both is not the sum of the changes of each; None if there are none."""
    check_two_kinds(book, name, one, other)
    form = form_of(book, name)
    degree = book.degree(name)
    firsts = changed_ends(form, words_ahead(form, degree), one, degree)
    lasts = changed_ends(turned_form(form), words_behind(form, degree), other, degree)
    betweens = [(rows, blocks[name]) for rows, blocks in spanning_pieces({name: form}, degree)]
    ways = [(len(first[0]) + len(between[0]) + len(last[0]), first, between, last)
            for first in firsts for between in betweens for last in lasts]
    for _, (ahead, x, row), (rows, table), (behind, y, column) in sorted(ways, key=lambda way: way[0]):
        if dot(row_through(row, table), column) != 0:
            return ahead, x, list(rows), y, behind
    return None


def is_together_shown(book, name, one, other, thing):
    """Whether any value is rows with numbers at which a change of both is not the sum of the changes of each."""
    check_two_kinds(book, name, one, other)
    if not is_tuple_of(thing, 5):
        return False
    ahead, x, between, y, behind = thing
    if not all([is_row_list(book.kinds, rows) for rows in (ahead, between, behind)]):
        return False
    if not is_number(x) or not is_number(y) or x == 0 or y == 0:
        return False
    form = form_of(book, name)
    row = row_through(rows_taken(form, ahead), changed_table(form, one, x))
    row = row_through(row, blocks_of({name: form}, between)[name])
    row = row_through(row, changed_table(form, other, y))
    return dot(row, rows_taken(turned_form(form), behind[::-1])) != 0
