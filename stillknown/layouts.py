"""Layouts of stretches among workers: what a lot of them must hand on, and what shows it."""

from stillknown.pieces import degree_of_book, forms_of, spanning_pieces
from stillknown.tables import dot, free_indexes, mirrored, row_through
from stillknown.values import is_name

MOST_STRETCHES = 4


def is_layout(value):
    """Whether a value is a tuple of 1 to 4 workers."""
    if not isinstance(value, tuple) or not 1 <= len(value) <= MOST_STRETCHES:
        return False
    return all([is_name(worker) for worker in value])


def marks_of(layout, lot):
    """For each stretch whether a worker of the lot holds it."""
    return tuple([worker in lot for worker in layout])


def runs_of(marks):
    """Pairs of a mark and the first index of the stretches side by side that have it."""
    # Stretches of one side that stand side by side count as one.
    return [(mark, at) for at, mark in enumerate(marks) if at == 0 or marks[at - 1] != mark]


def seen_part(form, table, is_first, is_last):
    """All numbers of a piece's table that matter if nothing stands ahead of the piece, or behind it."""
    begin, _, end = form
    if is_first:
        row = row_through(begin, table)
        return [dot(row, end)] if is_last else list(row)
    if is_last:
        return [dot(line, end) for line in table]
    return [number for line in table for number in line]


def answers_along(form, tables, options):
    """The answers for all ways to take a table for each run, by the tuple of the indexes that are taken."""
    found = {(): form[0]}
    for indexes in options:
        found = {taken + (at,): row_through(found[taken], tables[at]) for taken in found for at in indexes}
    return {taken: dot(found[taken], form[2]) for taken in found}


def put_together(runs, inside, outside):
    """The indexes for all runs, in their order, given those for the ones inside and outside."""
    left, right = list(inside), list(outside)
    return tuple([left.pop(0) if mark else right.pop(0) for mark, _ in runs])


def marks_along(runs, many):
    """The marks of so many stretches, given their runs."""
    ends = [at for _, at in runs[1:]] + [many]
    return [mark for (mark, at), end in zip(runs, ends) for _ in range(at, end)]


def all_ways(options):
    """All ways to take one item of each list, as tuples, ascending by the places in the lists."""
    ways = [()]
    for items in options:
        ways = [way + (item,) for way in ways for item in items]
    return ways


class Ground:
    """A layout of a book's stretches, with pieces that span all pieces of the book."""

    def __init__(self, book, layout):
        self.forms = forms_of(book)
        self.pieces = spanning_pieces(self.forms, degree_of_book(book))
        self.layout = layout
        self.found = {}

    def crossing(self, lot):
        """The least number of fractions that a lot of workers can hand on."""
        marks = marks_of(self.layout, lot)
        if marks not in self.found:
            self.found[marks] = len(self.shown(lot)[0])
        return self.found[marks]

    def shown(self, lot):
        """Outers and samples of a lot, as few as the crossing tells, with a regular table."""
        runs = runs_of(marks_of(self.layout, lot))
        samples, outers, lines = self.table_of(runs)
        rows = free_indexes(lines)
        columns = free_indexes(mirrored([lines[at] for at in rows]))
        # The first column is that of ones, which is always free.
        kept = [outers[at - 1] for at in columns[1:]]
        return (
            tuple([(key, self.filling(runs, False, taken)) for key, taken in kept]),
            tuple([self.filling(runs, True, samples[at]) for at in rows]),
        )

    def table_of(self, runs):
        """Samples, outers, and the table with a row of 1 and the answers for each sample."""
        insides = self.options(runs, list(self.forms), [1])
        samples = all_ways([indexes for indexes, run in zip(insides, runs) if run[0]])
        lines = [[1] for _ in samples]
        outers = []
        for key in self.forms:
            outsides = self.options(runs, [key], [])
            others = all_ways([indexes for indexes, run in zip(outsides, runs) if not run[0]])
            outers.extend([(key, outside) for outside in others])
            tables = [blocks[key] for _, blocks in self.pieces]
            options = [one if run[0] else other for one, other, run in zip(insides, outsides, runs)]
            answers = answers_along(self.forms[key], tables, options)
            lines = [
                line + [answers[put_together(runs, inside, outside)] for outside in others]
                for line, inside in zip(lines, samples)
            ]
        return samples, outers, lines

    def options(self, runs, keys, lead):
        """For each run the indexes of pieces that show all that these questions see of pieces there."""
        found = []
        for at in range(len(runs)):
            lines = []
            for _, blocks in self.pieces:
                line = list(lead)
                for key in keys:
                    line.extend(seen_part(self.forms[key], blocks[key], at == 0, at == len(runs) - 1))
                lines.append(line)
            found.append(free_indexes(lines))
        return found

    def filling(self, runs, mark, taken):
        """The filling of the stretches with this mark by the pieces with these indexes."""
        left = list(taken)
        stretches = []
        for at, holds in enumerate(marks_along(runs, len(self.layout))):
            if holds == mark:
                is_first = (mark, at) in runs
                stretches.append(list(self.pieces[left.pop(0)][0]) if is_first else [])
        return tuple(stretches)
