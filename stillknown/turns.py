"""What comes of the same rows again and again: finitely many answers, or endlessly many."""

from stillknown.tables import dot, free_indexes, multiplied, row_through, solved

# If six numbers tell what comes next, and there are finitely many answers, then from here on they
# come again after this many turns: each root of unity among six has an order that divides it.
FIRST = 6
TURNS = 2520
# Products of terms x - r, six at most, with all r of size at most 1 have no greater coefficients.
GREATEST = 20


def power_of(table, exponent):
    """A table times itself."""
    out = None
    square = table
    left = exponent
    while left > 0:
        if left & 1:
            out = square if out is None else multiplied(out, square)
        left = left >> 1
        if left > 0:
            square = multiplied(square, square)
    return out


def turned_apart(table):
    """What the powers of a table change by, in so many turns that finitely many powers come round; else None."""
    early = power_of(table, FIRST)
    late = multiplied(early, power_of(table, TURNS))
    if early == late:
        return None
    return tuple([tuple([x - y for x, y in zip(*lines)]) for lines in zip(late, early)])


def first_terms(row, table, column, many):
    """The row times the powers of the table times the column, so many of them."""
    terms = []
    for _ in range(many):
        terms.append(dot(row, column))
        row = row_through(row, table)
    return terms


def least_rule(terms):
    """Numbers by which each term is made of those ahead of it, the nearest one last, as few as can be."""
    half = len(terms) // 2
    lines = [terms[at:at + half] for at in range(half)]
    # In such a table the first lines are free, and the others hang on them.
    size = len(free_indexes(lines))
    square = [line[:size] for line in lines[:size]]
    shares, _ = solved(square, [[terms[size + at]] for at in range(size)])
    return [line[0] for line in shares]


def are_endless(row, table, column):
    """Whether the row times the powers of the table times the column has endlessly many values."""
    terms = first_terms(row, table, column, 2 * FIRST)
    # The least rule of whole numbers is of whole numbers, and it is small if the terms come round.
    rule = least_rule(terms)
    if max([abs(number) for number in rule], default=0) > GREATEST:
        return True
    size = len(rule)
    while len(terms) < TURNS + 2 * FIRST:
        terms.append(dot(rule, terms[len(terms) - size:]))
    return terms[TURNS + FIRST:] != terms[FIRST:2 * FIRST]
