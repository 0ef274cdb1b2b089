"""Rows of numbers that hang on others, and columns that part what does not hang on them."""

from stillknown.tables import Span, dot, first_place, free_indexes, mirrored, solved


def hung_on(rows, wish):
    """A tuple (over, numbers), over above 0 times the wish being the sum of the rows, so many times each.

    None if the wish does not hang on the rows. Over and the numbers have no common divisor but 1.
    """
    width = len(wish)
    many = len(rows)
    span = Span(width)
    for at, row in enumerate(rows):
        span.take(list(row) + unit_row(many + 1, at))
    left = span.rest(list(wish) + unit_row(many + 1, many))
    if first_place(left[:width]) is not None:
        return None
    # What is drawn from a row never changes the sign with which the row itself stands.
    return left[-1], tuple([-number for number in left[width:-1]])


def unit_row(size, place):
    """A row of zeros with a 1 at a place."""
    return [1 if at == place else 0 for at in range(size)]


def column_apart(rows, wish):
    """A column of whole numbers that times each row is 0, and times the wish is not; None if there is none."""
    lines = [rows[at] for at in free_indexes(rows)] + [wish]
    if len(free_indexes(lines)) < len(lines):
        return None
    places = free_indexes(mirrored(lines))
    square = [[line[at] for at in places] for line in lines]
    shares, _ = solved(square, [[0]] * (len(lines) - 1) + [[1]])
    column = [0] * len(wish)
    for place, share in zip(places, shares):
        column[place] = share[0]
    return column


def hang_all(rows, wishes):
    """Whether all wishes hang on the rows."""
    span = Span()
    for row in rows:
        span.take(row)
    return all([first_place(span.rest(wish)) is None for wish in wishes])


def are_orthogonal(rows, column):
    """Whether all rows times a column are 0."""
    return all([dot(row, column) == 0 for row in rows])
