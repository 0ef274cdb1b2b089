"""Lattices: all sums of whole numbers of times of some rows, kept by rows in steps."""

from stillknown.tables import first_place, row_through


class Lattice:
    """A lattice. Its lines, by the index of their first number other than 0, tell all its rows in one way."""

    def __init__(self):
        self.lines = {}

    def rest(self, row):
        """A row less rows of the lattice, as small as this makes it; zeros just if it lies in the lattice."""
        left = list(row)
        for place in sorted(self.lines):
            line = self.lines[place]
            times = left[place] // line[place]
            if times != 0:
                left = [x - times * y for x, y in zip(left, line)]
        return left

    def take(self, row):
        """Widen the lattice by a row."""
        left = list(row)
        place = first_place(left)
        while place is not None:
            if place not in self.lines:
                self.lines[place] = left if left[place] > 0 else [-x for x in left]
                return
            line = self.lines[place]
            # Euclid's way to the greatest common divisor, with whole rows.
            while left[place] != 0:
                times = line[place] // left[place]
                line, left = left, [x - times * y for x, y in zip(line, left)]
            self.lines[place] = line if line[place] > 0 else [-x for x in line]
            place = first_place(left)

    def shares(self, row):
        """How many times each line, ascending, makes up a row of the lattice."""
        left = list(row)
        shares = []
        for place in sorted(self.lines):
            line = self.lines[place]
            times = left[place] // line[place]
            left = [x - times * y for x, y in zip(left, line)]
            shares.append(times)
        return tuple(shares)

    def basis(self):
        """The lines, ascending."""
        return [tuple(self.lines[place]) for place in sorted(self.lines)]

    def tidy(self):
        """Make the numbers small that stand above the first ones of other lines."""
        places = sorted(self.lines)
        for at in range(len(places) - 1, -1, -1):
            line = self.lines[places[at]]
            for below in places[at + 1:]:
                other = self.lines[below]
                times = line[below] // other[below]
                line = [x - times * y for x, y in zip(line, other)]
            self.lines[places[at]] = line


def taken_through(row, step):
    """A row times a table, over a divisor."""
    table, divisor = step
    return [number // divisor for number in row_through(row, table)]


def closed_lattice(begin, steps):
    """The least lattice with a row in it that no step leads out of."""
    lattice = Lattice()
    waiting = [begin]
    at = 0
    while at < len(waiting):
        left = lattice.rest(waiting[at])
        at += 1
        if first_place(left) is not None:
            lattice.take(left)
            # What was drawn from the row is led through the steps already.
            waiting.extend([taken_through(left, step) for step in steps])
    lattice.tidy()
    return lattice
