"""The least form of a question of which only the answers can be had."""

from stillknown.lattices import closed_lattice, taken_through
from stillknown.tables import Span, added, free_indexes, mirrored, row_through, scaled, solved, units, zeros

# For each degree a divisor, and for each power the coefficients with which it is made of the
# values of a polynomial at 0, 1 .. degree.
DIVISORS = (1, 1, 2)
POWER_SHARES = (
    ((1,),),
    ((1, 0), (-1, 1)),
    ((2, 0, 0), (-3, 4, -1), (1, -2, 1)),
)


def told(ask, memory, word):
    """The answer for a tuple of rows; each is asked once."""
    if word not in memory:
        memory[word] = ask(list(word))
    return memory[word]


def told_table(ask, memory, aheads, behinds):
    """The table of the answers for each ahead followed by each behind."""
    return [[told(ask, memory, ahead + behind) for behind in behinds] for ahead in aheads]


def words_below(letters, length):
    """All tuples of fewer letters than length, the shorter ones first."""
    words = []
    layer = [()]
    for _ in range(length):
        words.extend(layer)
        layer = [word + (letter,) for word in layer for letter in letters]
    return words


def free_aheads(ask, memory, letters, behinds, most):
    """At most so many aheads, the shorter ones first, whose answers hang on none of those ahead of them."""
    span = Span()
    kept = []
    waiting = [()]
    at = 0
    while at < len(waiting) and len(kept) < most:
        ahead = waiting[at]
        at += 1
        if span.take(told_table(ask, memory, [ahead], behinds)[0]):
            kept.append(ahead)
            waiting.extend([ahead + (letter,) for letter in letters])
    return kept


def power_steps(back, divisor, tables):
    """The tables of the powers over their divisor, given those for the numbers 0, 1 .. and a way back."""
    degree = len(tables) - 1
    steps = []
    for shares in POWER_SHARES[degree]:
        mixed = zeros(len(back), len(back))
        for share, table in zip(shares, tables):
            mixed = added(mixed, scaled(share, table))
        steps.append((tuple([row_through(line, mixed) for line in back]), divisor * DIVISORS[degree]))
    return steps


def whole_form(begin, steps):
    """The form in the lattice that begin leads to; a row's first number is what it answers."""
    lattice = closed_lattice(begin, [step for kind in steps for step in steps[kind]])
    lines = lattice.basis()
    tables = {}
    for kind in steps:
        tables[kind] = tuple([
            tuple([lattice.shares(taken_through(line, step)) for line in lines]) for step in steps[kind]
        ])
    return lattice.shares(begin), tables, tuple([line[0] for line in lines])


def learned_form(ask, kinds, size, degree):
    """The least form, in the answers for the aheads followed by some behinds as coordinates."""
    memory = {}
    letters = [(kind, number) for kind in kinds for number in range(degree + 1)]
    behinds = words_below(letters, size)
    aheads = free_aheads(ask, memory, letters, behinds, size)
    if len(aheads) == 0:
        return (), {kind: ((),) for kind in kinds}, ()
    wide = told_table(ask, memory, aheads, behinds)
    # No rows behind is the first of them: an answer that is never 0 there would be 0 everywhere.
    seen = [behinds[at] for at in free_indexes(mirrored(wide))]
    square = told_table(ask, memory, aheads, seen)
    back, divisor = solved(square, units(len(square)))
    steps = {}
    for kind in kinds:
        tables = []
        for number in range(degree + 1):
            longer = [ahead + ((kind, number),) for ahead in aheads]
            tables.append(told_table(ask, memory, longer, seen))
        steps[kind] = power_steps(back, divisor, tables)
    return whole_form(square[0], steps)
