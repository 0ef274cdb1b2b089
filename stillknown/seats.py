"""Tuples of numbers at seats, and the checks of them."""

from itertools import combinations

from stillknown.hanging import hang_all
from stillknown.ownforms import are_numbers
from stillknown.tables import mirrored, solved
from stillknown.values import is_list, is_within

MOST_SEATS = 8
HIGHEST_SEAT = 9
WIDEST = 45
MOST_CHECKS = 4


def is_seat(value):
    """Whether a value is a seat."""
    return is_within(value, 1, HIGHEST_SEAT)


def is_tuple_of_numbers(value):
    """Whether a value is a tuple of 0 to 45 numbers."""
    return isinstance(value, tuple) and len(value) <= WIDEST and are_numbers(value, len(value))


def are_alike_wide(rows):
    """Whether some tuples all have as many numbers."""
    return all([len(row) == len(rows[0]) for row in rows])


def are_seated(value):
    """Whether a value is a dict with 1 to 8 seats as keys."""
    return isinstance(value, dict) and 1 <= len(value) <= MOST_SEATS and all([is_seat(key) for key in value])


def are_tuples(value):
    """Whether a value is a dict from 1 to 8 seats to tuples of as many numbers."""
    if not are_seated(value) or not all([is_tuple_of_numbers(row) for row in value.values()]):
        return False
    return are_alike_wide(list(value.values()))


def are_heard(value):
    """Whether a value is a dict from 1 to 8 seats to tuples of as many numbers, or None."""
    if not are_seated(value):
        return False
    rows = [row for row in value.values() if row is not None]
    return all([is_tuple_of_numbers(row) for row in rows]) and are_alike_wide(rows)


def are_checks(value):
    """Whether a value is a list of 0 to 4 tuples of as many numbers."""
    if not is_list(value) or len(value) > MOST_CHECKS:
        return False
    return all([is_tuple_of_numbers(check) for check in value]) and are_alike_wide(list(value))


def raised(number, power):
    """A number to a power from 0 on; 1 for the power 0."""
    out = 1
    for _ in range(power):
        out = out * number
    return out


def plus_times(row, number, other):
    """A tuple and so many times another one together."""
    return tuple([have + number * more for have, more in zip(row, other)])


def all_checks(tuples, count):
    """The first so many checks of some tuples."""
    width = len(tuples[min(tuples)])
    checks = []
    for power in range(count):
        total = (0,) * width
        for seat in tuples:
            total = plus_times(total, raised(seat, power), tuples[seat])
        checks.append(total)
    return checks


def left_over(heard, check, power):
    """What a check tells of the silent seats: itself, less what comes of those that are heard."""
    for seat in heard:
        check = plus_times(check, -raised(seat, power), heard[seat])
    return check


def told_of_silent(silent, lefts):
    """The pair (tuples of the silent seats, divisor) that lead to all that is left of checks; None if none do.

    lefts has what is left of each heard check, by its index; there are at least as many as silent seats.
    """
    powers = sorted(lefts)
    lines = [[raised(seat, power) for seat in silent] for power in powers]
    many = len(silent)
    # With different seats from 1 on each square part of this table is regular.
    told, divisor = solved(lines[:many], [lefts[power] for power in powers[:many]])
    for power, line in zip(powers[many:], lines[many:]):
        total = (0,) * len(lefts[power])
        for number, row in zip(line, told):
            total = plus_times(total, number, row)
        if total != tuple([divisor * number for number in lefts[power]]):
            return None
    return told, divisor


def lefts_without(tuples, checks, seats, indexes):
    """What is left of each check but those with these indexes, if these seats are not heard."""
    heard = {seat: tuples[seat] for seat in tuples if seat not in seats}
    return {
        power: left_over(heard, check, power) for power, check in enumerate(checks) if power not in indexes
    }


def can_be_wrong(tuples, checks, seats, indexes):
    """Whether some tuples at these seats lead to all checks but those with these indexes."""
    lefts = lefts_without(tuples, checks, seats, indexes)
    columns = [[raised(seat, power) for power in lefts] for seat in seats]
    return hang_all(columns, mirrored(list(lefts.values())))


def wrong_ways(tuples, checks, many):
    """All pairs of seats and indexes of checks, so many together, that can be wrong; ascending."""
    seats, indexes = sorted(tuples), list(range(len(checks)))
    found = []
    for workers in range(many + 1):
        for some in combinations(seats, workers):
            for others in combinations(indexes, int(many - workers)):
                if can_be_wrong(tuples, checks, some, others):
                    found.append((some, others))
    return sorted(found)


def least_wrong(tuples, checks):
    """The least number of workers and checks that must be wrong, and all ways of just so many."""
    many = 0
    ways = wrong_ways(tuples, checks, many)
    while len(ways) == 0:
        many += 1
        ways = wrong_ways(tuples, checks, many)
    return many, ways
