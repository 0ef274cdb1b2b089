"""The space of the readings of several books, and blends of their readings."""

from stillknown.pieces import (
    degree_of_book, forms_of, readings_shown, seen_by, spanning_pieces, told_of, total_blocks, value_at,
)
from stillknown.tables import Span, free_indexes
from stillknown.values import is_key_of, is_list, is_pair_of_number, is_surrounding, is_tuple_of, is_within


def is_row_reading(versions, value, firsts):
    """Whether a value is a reading of one of the first versions, so many."""
    if not is_tuple_of(value, 3) or not is_within(value[0], 0, firsts - 1):
        return False
    version = versions[value[0]]
    return is_key_of(value[1], version.names) and is_surrounding(version.kinds, value[2])


def is_blend(versions, value, firsts):
    """Whether a value is a blend with readings of the first versions, so many."""
    if not is_list(value) or len(value) == 0:
        return False
    for pair in value:
        if not is_pair_of_number(pair):
            return False
        if pair[1] is not None and not is_row_reading(versions, pair[1], firsts):
            return False
    return True


class Shelf:
    """Some versions, with pieces that span what all their readings tell."""

    def __init__(self, versions):
        self.unlike = {}
        self.called = {}
        for index, version in enumerate(versions):
            forms = forms_of(version)
            for name in forms:
                self.called[(index, name)] = self.own_key((index, name), forms[name])
        self.highest = max([degree_of_book(version) for version in versions])
        self.pieces = spanning_pieces(self.unlike, self.highest)
        self.ones = [1] * len(self.pieces)

    def own_key(self, key, form):
        """The key under which a form stands; equal forms stand under one."""
        for other in self.unlike:
            if self.unlike[other] == form:
                return other
        self.unlike[key] = form
        return key

    def told(self, reading):
        """What a reading tells of the spanning pieces."""
        version, name, surrounding = reading
        key = self.called[(version, name)]
        return told_of(self.unlike[key], key, surrounding, self.pieces)

    def readings(self, version, names):
        """Readings, with what they tell, on which all readings of these questions of a version hang."""
        seen = []
        for name in names:
            key = self.called[(version, name)]
            for surrounding, told in readings_shown(self.unlike[key], key, self.highest, self.pieces):
                seen.append(((version, name, surrounding), told))
        kept = free_indexes([self.ones] + [told for _, told in seen])
        return [seen[at - 1] for at in kept if at > 0]

    def blended(self, blend):
        """What a blend is worth at the spanning pieces."""
        total = [0] * len(self.pieces)
        for coefficient, item in blend:
            told = self.ones if item is None else self.told(item)
            total = [have + coefficient * more for have, more in zip(total, told)]
        return total

    def total(self, mix):
        """The sum of the coefficients of a mix, and the sums of the blocks of its pieces."""
        return total_blocks(self.unlike, mix)

    def told_of_total(self, reading, blocks):
        """What a reading tells of a mix, given the sums of its blocks."""
        version, name, surrounding = reading
        key = self.called[(version, name)]
        return value_at(seen_by(self.unlike[key], surrounding), blocks[key])


def span_of(lists):
    """The span of all rows in some lists."""
    span = Span()
    for rows in lists:
        for row in rows:
            span.take(row)
    return span


def size_of(lists):
    """How many of all rows in some lists are free."""
    return len(span_of(lists).lines)


def both_spans(rows, others):
    """For free rows: numbers of times of them, such that the sums are all that hangs on the others, too."""
    width = len(rows[0])
    span = Span(width)
    for at, row in enumerate(rows):
        span.take(list(row) + [1 if place == at else 0 for place in range(len(rows))])
    found = []
    for row in others:
        longer = list(row) + [0] * len(rows)
        if not span.take(longer):
            # What is left of it tells which sum of the rows is a sum of the others.
            found.append(span.rest(longer)[width:])
    return found
