"""Tables of whole numbers: products, sums, and rows that hang on one another."""

from math import gcd, lcm


def row_through(row, table):
    """A row of numbers times a square table."""
    out = [0] * len(row)
    for number, line in zip(row, table):
        if number != 0:
            out = [have + number * more for have, more in zip(out, line)]
    return tuple(out)


def dot(row, column):
    """A row of numbers times a column of as many."""
    return sum([one * other for one, other in zip(row, column)])


def multiplied(one, other):
    """The product of two square tables."""
    return tuple([row_through(line, other) for line in one])


def mirrored(table):
    """A table with its rows as columns."""
    return tuple(zip(*table))


def added(one, other):
    """The sum of two tables."""
    return tuple([tuple([x + y for x, y in zip(*lines)]) for lines in zip(one, other)])


def scaled(number, table):
    """So many times a table."""
    return tuple([tuple([number * x for x in line]) for line in table])


def zeros(rows, columns):
    """The table of zeros."""
    return ((0,) * columns,) * rows


def units(size):
    """The table that changes nothing."""
    return tuple([tuple([1 if at == place else 0 for at in range(size)]) for place in range(size)])


def in_blocks(upper_left, upper_right, lower_left, lower_right):
    """Four tables as one."""
    upper = [tuple(left) + tuple(right) for left, right in zip(upper_left, upper_right)]
    lower = [tuple(left) + tuple(right) for left, right in zip(lower_left, lower_right)]
    return tuple(upper + lower)


def each_by_each(one, other):
    """The table of the products of each number of the one and each number of the other."""
    return tuple([row_by_row(line, more) for line in one for more in other])


def row_by_row(one, other):
    """The row of the products of each number of the one and each number of the other."""
    return tuple([x * y for x in one for y in other])


def first_place(row):
    """The index of the first number of a row that is not 0; None if there is none."""
    for at, number in enumerate(row):
        if number != 0:
            return at
    return None


def made_small(row):
    """A row without the divisors that all its numbers have in common."""
    common = 0
    for number in row:
        common = gcd(common, number)
        if common == 1:
            return row
    return row if common == 0 else [number // common for number in row]


class Span:
    """Rows none of which hangs on the others, each with a place where all others have 0.

    Only the first places, as many as the width, are looked at; what stands behind them goes along.
    """

    def __init__(self, width=None):
        self.width = width
        self.lines = {}

    def rest(self, row):
        """What is left of a row if the rows that were taken are drawn from it; zeros if it hangs on them."""
        draws = [(place, self.lines[place]) for place in self.lines if row[place] != 0]
        times = 1
        for place, line in draws:
            times = lcm(times, line[place] // gcd(line[place], row[place]))
        left = [times * x for x in row]
        for place, line in draws:
            draw = times * row[place] // line[place]
            left = [x - draw * y for x, y in zip(left, line)]
        return made_small(left)

    def take(self, row):
        """Take a row, unless it hangs on those that were taken; returns whether it was taken."""
        left = self.rest(row)
        place = first_place(left if self.width is None else left[:self.width])
        if place is None:
            return False
        if left[place] < 0:
            left = [-x for x in left]
        for other in list(self.lines):
            line = self.lines[other]
            if line[place] != 0:
                common = gcd(left[place], line[place])
                times, draw = left[place] // common, line[place] // common
                self.lines[other] = made_small([times * x - draw * y for x, y in zip(line, left)])
        self.lines[place] = left
        return True


def free_indexes(rows):
    """The indexes of the rows that hang on none of those ahead of them."""
    span = Span()
    return [at for at, row in enumerate(rows) if span.take(row)]


def solved(table, right):
    """For a regular table the pair (answer, divisor): the table times the answer is divisor times right."""
    lines = [list(line) + list(more) for line, more in zip(table, right)]
    size = len(lines)
    for place in range(size):
        swap_up(lines, place)
        pivot = lines[place]
        for at in range(size):
            if at != place and lines[at][place] != 0:
                common = gcd(pivot[place], lines[at][place])
                times, draw = pivot[place] // common, lines[at][place] // common
                lines[at] = made_small([times * x - draw * y for x, y in zip(lines[at], pivot)])
    return over_one_divisor([(line[at], line[size:]) for at, line in enumerate(lines)])


def swap_up(lines, place):
    """Bring a line with a number other than 0 at a place to this place, from those below."""
    at = place
    while lines[at][place] == 0:
        at += 1
    lines[place], lines[at] = lines[at], lines[place]


def over_one_divisor(pairs):
    """Rows, each with a divisor of its own, as a pair of a table and the least divisor above 0 for all."""
    divisor = 1
    for under, _ in pairs:
        divisor = divisor * under // gcd(divisor, under)
    divisor = abs(divisor)
    table = [[divisor // under * x for x in line] for under, line in pairs]
    common = divisor
    for line in table:
        for number in line:
            common = gcd(common, number)
    return tuple([tuple([x // common for x in line]) for line in table]), divisor // common
