"""Silent and wrong workers: checks of the numbers that workers hand on, as few as can be."""

from itertools import combinations
from math import lcm

from stillknown.asked import check_book
from stillknown.errors import (
    BadChecks, BadCount, BadNumbers, BadScheme, BadSeat, BadSeats, BadTuples, BadWidth, Unfit,
)
from stillknown.handing import hand_over, handed, joined, told_answers
from stillknown.ownforms import are_numbers
from stillknown.seats import (
    MOST_CHECKS, MOST_SEATS, all_checks, are_alike_wide, are_checks, are_heard, are_tuples, is_seat,
    is_tuple_of_numbers, least_wrong, left_over, lefts_without, plus_times, raised, told_of_silent,
)
from stillknown.tables import Span, dot, first_place
from stillknown.values import is_list, is_tuple_of, is_within

WIDEST_WORKER = 6
LONGEST_SCHEME = 24


def check_tuples(tuples):
    """Refuse what is no dict from seats to tuples of as many numbers."""
    if not are_tuples(tuples):
        raise BadTuples("no dict from 1 to 8 seats to tuples of as many numbers")


def check_count(count, most):
    """Refuse what is no number from 0 on to the greatest one."""
    if not is_within(count, 0, most):
        raise BadCount("no number from 0 on that is let")


def checks_of(tuples, count):
    """The first so many checks of some tuples."""
    check_tuples(tuples)
    check_count(count, MOST_CHECKS)
    return all_checks(tuples, count)


def after_change(checks, seat, before, later):
    """The checks behind a change at one seat, None standing for no worker."""
    if not are_checks(checks):
        raise BadChecks("no list of 0 to 4 tuples of as many numbers")
    if not is_seat(seat):
        raise BadSeat("no number from 1 to 9")
    there = [row for row in (before, later) if row is not None]
    if not all([is_tuple_of_numbers(row) for row in there]) or not are_alike_wide(list(checks[:1]) + there):
        raise BadTuples("not as many numbers as the checks have")
    out = []
    for power, check in enumerate(checks):
        share = raised(seat, power)
        if before is not None:
            check = plus_times(check, -share, before)
        if later is not None:
            check = plus_times(check, share, later)
        out.append(check)
    return out


def check_heard_checks(heard, checks):
    """Refuse what is no list of checks, or None, that may stand beside the tuples that are heard."""
    if not is_list(checks) or len(checks) > MOST_CHECKS:
        raise BadChecks("no list of 0 to 4 checks")
    told = [check for check in checks if check is not None]
    rows = [row for row in heard.values() if row is not None] + told
    if len(rows) == 0 or not all([is_tuple_of_numbers(check) for check in told]) or not are_alike_wide(rows):
        raise BadChecks("not as many numbers as those heard, or nothing at all is heard")


def whole_tuples(heard, silent, found):
    """The dict of the tuples that are heard and those found for the silent seats, if these are whole."""
    if found is None or found[1] != 1:
        raise Unfit("no whole numbers agree with all that is heard")
    told = {seat: row for seat, row in zip(silent, found[0])}
    return {seat: told[seat] if seat in told else heard[seat] for seat in sorted(heard)}


def told_back(heard, checks):
    """All tuples, those of the silent seats worked out of the checks; None if too few checks are heard."""
    if not are_heard(heard):
        raise BadTuples("no dict from 1 to 8 seats to tuples of as many numbers, or None")
    check_heard_checks(heard, checks)
    silent = sorted([seat for seat in heard if heard[seat] is None])
    rows = {seat: heard[seat] for seat in heard if heard[seat] is not None}
    lefts = {power: left_over(rows, check, power) for power, check in enumerate(checks) if check is not None}
    if len(silent) > len(lefts):
        return None
    return whole_tuples(heard, silent, told_of_silent(silent, lefts))


def answers_of(book, tuples):
    """The answers for the pieces of all workers one behind another, of which the tuples are handed on."""
    check_book(book)
    paper = hand_over(book)
    check_tuples(tuples)
    seats = sorted(tuples)
    try:
        whole = tuples[seats[0]]
        for seat in seats[1:]:
            whole = joined(paper, whole, tuples[seat])
        answers = told_answers(paper, whole)
    except BadNumbers:
        raise BadTuples("not as many numbers as are handed on, or a join or an answer is not whole")
    return {name: answer for name, answer in zip(book.names, answers)}


def check_faulty(tuples, checks):
    """Refuse tuples and checks that can not be asked for what is wrong in them."""
    check_tuples(tuples)
    if not are_checks(checks) or len(checks) == 0 or not are_alike_wide(list(checks) + list(tuples.values())):
        raise BadChecks("no list of 1 to 4 tuples of as many numbers as the tuples have")


def faults(tuples, checks):
    """The least number of workers and checks that must be wrong, and all ways of just so many."""
    check_faulty(tuples, checks)
    return least_wrong(tuples, checks)


def mended(tuples, checks):
    """The dict of all tuples if just one way of wrong ones is the least; None otherwise."""
    check_faulty(tuples, checks)
    _, ways = least_wrong(tuples, checks)
    if len(ways) > 1:
        return None
    seats, indexes = ways[0]
    found = told_of_silent(seats, lefts_without(tuples, checks, seats, indexes))
    return whole_tuples(tuples, seats, found)


def check_seats_and_width(seats, width):
    """Refuse what is no ascending tuple of seats, and what is no width."""
    if not isinstance(seats, tuple) or not 1 <= len(seats) <= MOST_SEATS or not is_ascending(seats):
        raise BadSeats("no ascending tuple of 1 to 8 different seats")
    if not is_within(width, 1, WIDEST_WORKER):
        raise BadWidth("no number from 1 to 6")


def is_ascending(seats):
    """Whether all items are different seats, ascending."""
    return all([is_seat(seat) for seat in seats]) and all([one < other for one, other in zip(seats, seats[1:])])


def check_scheme(seats, width, scheme, silent):
    """Refuse seats, a width, a scheme and a number of silent seats that are not as told."""
    check_seats_and_width(seats, width)
    if not is_list(scheme) or len(scheme) > LONGEST_SCHEME:
        raise BadScheme("no list of 0 to 24 tuples")
    if not all([are_numbers(shares, len(seats) * width) for shares in scheme]):
        raise BadScheme("not a coefficient for each number of each seat")
    check_count(silent, len(seats))


def shares_of(seats, width, scheme, lost):
    """The coefficients of the numbers of the lost seats alone, for each tuple of a scheme."""
    places = [at * width + more for at, seat in enumerate(seats) if seat in lost for more in range(width)]
    return [[shares[place] for place in places] for shares in scheme]


def unseen_numbers(lines, many):
    """So many numbers, not all 0, that times each line are 0; None if there are none."""
    span = Span()
    for line in lines:
        span.take(line)
    free = [place for place in range(many) if place not in span.lines]
    if len(free) == 0:
        return None
    times = 1
    for place in span.lines:
        times = lcm(times, span.lines[place][place])
    numbers = [0] * many
    numbers[free[0]] = times
    for place in span.lines:
        line = span.lines[place]
        numbers[place] = -(times // line[place]) * line[free[0]]
    return numbers


def unborne(seats, width, scheme, silent):
    """Seats, so many, and numbers by which theirs can be otherwise unseen; None if the scheme bears so many."""
    check_scheme(seats, width, scheme, silent)
    for lost in combinations(seats, int(silent)):
        numbers = unseen_numbers(shares_of(seats, width, scheme, lost), len(lost) * width)
        if numbers is not None:
            return lost, tuple(numbers)
    return None


def is_unborne(seats, width, scheme, silent, thing):
    """Whether any value is a pair of so many seats and numbers by which theirs can be otherwise unseen."""
    check_scheme(seats, width, scheme, silent)
    if not is_tuple_of(thing, 2) or not is_tuple_of(thing[0], silent) or not is_ascending(thing[0]):
        return False
    lost, numbers = thing
    if not all([seat in seats for seat in lost]) or not are_numbers(numbers, silent * width):
        return False
    if first_place(numbers) is None:
        return False
    return all([dot(shares, numbers) == 0 for shares in shares_of(seats, width, scheme, lost)])


def power_scheme(seats, width, count):
    """The scheme that holds the first so many checks."""
    check_seats_and_width(seats, width)
    check_count(count, MOST_CHECKS)
    scheme = []
    for power in range(count):
        for place in range(width):
            scheme.append(tuple([
                raised(seat, power) if at == place else 0 for seat in seats for at in range(width)
            ]))
    return scheme


def least_scheme(book, silent):
    """How many numbers a scheme must hold at least that bears so many silent seats."""
    check_book(book)
    check_count(silent, MOST_CHECKS)
    return silent * handed(book)
