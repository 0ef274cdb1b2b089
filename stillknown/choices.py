"""Choices among rows of numbers: ascending tuples of indexes, enough for what hangs on them."""

from itertools import combinations

from stillknown.hanging import hang_all
from stillknown.tables import Span, first_place, free_indexes, mirrored
from stillknown.values import is_within


def moving(rows):
    """The rows less what is the same everywhere: to hang straight on others is to hang on these alone."""
    return [[number - row[0] for number in row[1:]] for row in rows]


def short_rows(rows):
    """The rows at so many places as tell which of them hang on which."""
    places = free_indexes(mirrored(rows)) if len(rows) > 0 else []
    return [[row[place] for place in places] for row in rows]


def is_choice(many, value):
    """Whether a value is an ascending tuple of different indexes below many."""
    if not isinstance(value, tuple) or not all([is_within(index, 0, many - 1) for index in value]):
        return False
    return all([one < other for one, other in zip(value, value[1:])])


def lies_in(choice, other):
    """Whether all indexes of a choice are in another one."""
    return all([index in other for index in choice])


def chosen(rows, choice):
    """The rows of a choice."""
    return [rows[index] for index in choice]


def are_independent(rows):
    """Whether none of the rows hangs on the others."""
    return len(free_indexes(rows)) == len(rows)


def least_enough(rows, wishes):
    """The choices on which all wishes hang, while they do on none that lies in it; by length, then ascending."""
    short = short_rows(rows + wishes)
    found = []
    for many in range(len(rows) + 1):
        for choice in combinations(range(len(rows)), many):
            if not any([lies_in(other, choice) for other in found]):
                if hang_all(chosen(short, choice), short[len(rows):]):
                    found.append(choice)
    return found


def all_bases(rows):
    """The choices of free rows on which all others hang, ascending."""
    short = short_rows(rows)
    size = len(free_indexes(short))
    return [choice for choice in combinations(range(len(rows)), size) if are_independent(chosen(short, choice))]


def is_base(rows, choice):
    """Whether the rows of a choice are free, and all others hang on them."""
    return len(choice) == len(free_indexes(rows)) and are_independent(chosen(rows, choice))


def all_rings(rows):
    """The choices of rows that hang on one another, while no fewer of them do; by length, then ascending."""
    short = short_rows(rows)
    found = []
    for many in range(1, len(rows) + 1):
        for choice in combinations(range(len(rows)), many):
            if not any([lies_in(other, choice) for other in found]):
                if not are_independent(chosen(short, choice)):
                    found.append(choice)
    return found


def hanging_indexes(rows, wishes):
    """The indexes, ascending, of the wishes that hang on the rows."""
    span = Span()
    for row in rows:
        span.take(row)
    return tuple([at for at, wish in enumerate(wishes) if first_place(span.rest(wish)) is None])


def all_safe(rows, secrets):
    """The choices on which no secret hangs, while one does on each that is greater; the longest first."""
    short = short_rows(rows + secrets)
    found = []
    for many in range(len(rows), -1, -1):
        for choice in combinations(range(len(rows)), many):
            if not any([lies_in(choice, other) for other in found]):
                if len(hanging_indexes(chosen(short, choice), short[len(rows):])) == 0:
                    found.append(choice)
    return found


def price_limit(rows, prices, index):
    """The least price such that a row hangs on others that cost no more; None if it hangs on none, -1 if on nothing."""
    if first_place(rows[index]) is None:
        return -1
    span = Span()
    others = [at for at in range(len(rows)) if at != index]
    for at in sorted(others, key=lambda other: prices[other]):
        span.take(rows[at])
        if first_place(span.rest(rows[index])) is None:
            return prices[at]
    return None
