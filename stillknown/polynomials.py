"""Answers as polynomials in the numbers of some rows."""

from stillknown.ownforms import power_table, row_taken
from stillknown.roots import changes_of, shared_roots, slope_of, without_zeros, worth_at
from stillknown.tables import dot, row_through
from stillknown.values import is_number

MOST_OPEN = 3


def is_powers(value):
    """Whether a value is a tuple of 1 to 3 numbers from 0 on."""
    if not isinstance(value, tuple) or not 1 <= len(value) <= MOST_OPEN:
        return False
    return all([is_number(power) and power >= 0 for power in value])


def is_polynomial(value):
    """Whether a value is a polynomial: a dict from powers to coefficients."""
    if not isinstance(value, dict) or not all([is_powers(key) for key in value]):
        return False
    if len(set([len(key) for key in value])) > 1:
        return False
    return all([is_number(coefficient) and coefficient != 0 for coefficient in value.values()])


def to_power(number, power):
    """A number to a power from 0 on; 1 for the power 0."""
    out, square, left = 1, number, power
    while left > 0:
        if left & 1:
            out = out * square
        square = square * square
        left = left >> 1
    return out


def worth_of_polynomial(polynomial, numbers):
    """The worth of a polynomial at some numbers."""
    total = 0
    for powers in polynomial:
        part = polynomial[powers]
        for number, power in zip(numbers, powers):
            part = part * to_power(number, power)
        total = total + part
    return total


def polynomial_of(form, rows, places):
    """The polynomial, ascending by powers, in the numbers of the rows at these places that tells the answer."""
    ends = {(0,) * len(places): form[0]}
    for at, row in enumerate(rows):
        if at in places:
            ends = opened(form, ends, row[0], places.index(at))
        else:
            ends = {powers: row_taken(form, ends[powers], row) for powers in ends}
    answers = {powers: dot(ends[powers], form[2]) for powers in sorted(ends)}
    return {powers: answers[powers] for powers in answers if answers[powers] != 0}


def opened(form, ends, kind, place):
    """What one more row of a kind leads to, its number being left open: for each power its own row of numbers."""
    found = {}
    for powers in ends:
        for power in range(len(form[1][kind])):
            longer = powers[:place] + (power,) + powers[place + 1:]
            found[longer] = row_through(ends[powers], power_table(form, kind, power))
    return found


def coefficients_of(polynomial):
    """The coefficients of a polynomial in one number, from the power 0 on, at least one."""
    highest = max([powers[0] for powers in polynomial], default=0)
    return [polynomial.get((power,), 0) for power in range(highest + 1)]


def numbers_at(coefficients, goal):
    """The numbers, ascending, with which a polynomial has this worth; None if it has it with all."""
    return shared_roots([[coefficients[0] - goal] + coefficients[1:]])


def least_worth(coefficients):
    """The least worth of a polynomial and the numbers that lead to it, None for all; None if there is no least one."""
    short = without_zeros(coefficients)
    if len(short) < 2:
        return coefficients[0], None
    # Far out it goes up on both sides just if the highest power is even and stands with a sign of plus.
    if len(short) % 2 == 0 or short[-1] < 0:
        return None
    turns = changes_of(slope_of(short))
    least = min([worth_at(short, number + more) for number in turns for more in (0, 1)])
    return least, numbers_at(coefficients, least)


def greatest_worth(coefficients):
    """The greatest worth of a polynomial and the numbers that lead to it, as for the least one."""
    found = least_worth([-coefficient for coefficient in coefficients])
    return None if found is None else (-found[0], found[1])
