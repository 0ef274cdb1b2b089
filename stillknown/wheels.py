"""Wheels and machines as walks through the states of a question, and patterns made of wheels."""

from stillknown.lattices import closed_lattice
from stillknown.leastforms import row_letters
from stillknown.ownforms import are_numbers, row_table
from stillknown.patterns import Pattern
from stillknown.tables import dot, mirrored, row_through
from stillknown.values import is_tuple_of, is_within
from stillknown.walks import fitting, walked

MOST_STATES = 200
MOST_OF_PATTERN = 4


def kinds_of(form):
    """The kinds of a form, ascending."""
    return sorted(form[1])


def machine_walk(form):
    """The walk through what the kinds of rows lead to, their numbers taken as 0; None if it is too long."""
    letters = [form[1][kind][0] for kind in kinds_of(form)]
    return walked(form[0], letters, row_through, MOST_STATES)


def machine_of(form, walk):
    """The machine of a walk."""
    found, _, lines = walk
    steps = {kind: tuple([line[at] for line in lines]) for at, kind in enumerate(kinds_of(form))}
    return tuple([dot(state, form[2]) for state in found]), steps


def are_states(value, states):
    """Whether a value is a tuple of as many states as there are."""
    return is_tuple_of(value, states) and all([is_within(state, 0, states - 1) for state in value])


def are_steps(kinds, value):
    """Whether a value is a dict with just these kinds as keys."""
    return isinstance(value, dict) and len(value) == len(kinds) and all([kind in value for kind in kinds])


def is_some_tuple(value):
    """Whether a value is a tuple of 1 to 200 items."""
    return isinstance(value, tuple) and 1 <= len(value) <= MOST_STATES


def is_machine(form, degree, value):
    """Whether a value is a right machine of at most 200 states."""
    if not is_tuple_of(value, 2) or not is_some_tuple(value[0]):
        return False
    answers, steps = value
    states = len(answers)
    if not are_numbers(answers, states) or not are_steps(kinds_of(form), steps):
        return False
    if not all([are_states(steps[kind], states) for kind in steps]):
        return False
    letters = row_letters(form, degree)
    tables = [table for _, table in letters]
    found = fitting(form[0], tables, row_through, lambda state, index: steps[letters[index][0][0]][state])
    return found is not None and all([dot(found[state], form[2]) == answers[state] for state in found])


def seen_form(form, degree, modulus):
    """The form in what behinds see, in whole numbers, with a table for each kind and remainder.

    Two row lists lead to the same remainders in it just if their answers leave the same remainder,
    whatever rows follow.
    """
    begin, _, end = form
    lattice = closed_lattice(end, [(mirrored(table), 1) for _, table in row_letters(form, degree)])
    lines = lattice.basis()
    letters = []
    for kind in kinds_of(form):
        for number in range(modulus):
            mirror = mirrored(row_table(form, (kind, number)))
            letters.append(mirrored([lattice.shares(row_through(line, mirror)) for line in lines]))
    return tuple([dot(begin, line) for line in lines]), letters, lattice.shares(end)


def remainders_of(row, modulus):
    """The remainders of a row of numbers."""
    return tuple([number % modulus for number in row])


def wheel_of(form, degree, modulus):
    """The wheel with the fewest states; None if there are too many."""
    begin, letters, end = seen_form(form, degree, modulus)
    walk = walked(remainders_of(begin, modulus), letters,
                  lambda state, table: remainders_of(row_through(state, table), modulus), MOST_STATES)
    if walk is None:
        return None
    found, _, lines = walk
    steps = {}
    for place, kind in enumerate(kinds_of(form)):
        first = place * modulus
        steps[kind] = tuple([tuple([line[first + at] for line in lines]) for at in range(modulus)])
    return tuple([dot(state, end) % modulus for state in found]), steps


def is_right_wheel(form, degree, modulus, value):
    """Whether a value is a right wheel of at most 200 states."""
    if not is_tuple_of(value, 2) or not is_some_tuple(value[0]):
        return False
    remainders, steps = value
    states = len(remainders)
    if not all([is_within(number, 0, modulus - 1) for number in remainders]) or not are_steps(kinds_of(form), steps):
        return False
    for lines in steps.values():
        if not is_tuple_of(lines, modulus) or not all([are_states(line, states) for line in lines]):
            return False
    begin, letters, end = seen_form(form, degree, modulus)
    flat = [line for kind in kinds_of(form) for line in steps[kind]]
    found = fitting(remainders_of(begin, modulus), letters,
                      lambda state, table: remainders_of(row_through(state, table), modulus),
                      lambda state, index: flat[index][state])
    return found is not None and all([dot(found[state], end) % modulus == remainders[state] for state in found])


def classes_of(marks, lines):
    """Numbers for states, the same for two of them just if the same letters always lead to the same marks."""
    classes = marks
    many = 0
    while True:
        numbers = {}
        finer = []
        for own, line in zip(classes, lines):
            sign = (own,) + tuple([classes[to] for to in line])
            if sign not in numbers:
                numbers[sign] = len(numbers)
            finer.append(numbers[sign])
        classes = finer
        if len(numbers) == many:
            return classes
        many = len(numbers)


def pattern_in(wheel, wanted):
    """The pattern of the rows that a wheel leads to a wanted remainder; None if there is none of four states."""
    remainders, steps = wheel
    kinds = sorted(steps)
    flat = [line for kind in kinds for line in steps[kind]]
    lines = [[line[state] for line in flat] for state in range(len(remainders))]
    classes = classes_of([1 if remainder in wanted else 0 for remainder in remainders], lines)
    for kind in kinds:
        moved = steps[kind]
        for places in zip(*moved):
            if not all([classes[place] == classes[places[0]] for place in places]):
                return None
    leads = {own: at for at, own in enumerate(classes)}
    walk = walked(classes[0], kinds, lambda own, kind: classes[steps[kind][0][leads[own]]], MOST_OF_PATTERN)
    if walk is None:
        return None
    found, _, moves = walk
    good = [at for at, own in enumerate(found) if remainders[leads[own]] in wanted]
    return Pattern({kind: [move[at] for move in moves] for at, kind in enumerate(kinds)}, good)
