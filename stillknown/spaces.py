"""The space of a book: mixes of pieces that all readings see alike, and pieces that span it."""

from stillknown.asked import check_book
from stillknown.errors import BadMix, BadPieces
from stillknown.hanging import hung_on
from stillknown.pieces import (
    blocks_of, degree_of_book, flat_blocks, forms_of, reading_apart, spanning_pieces, total_blocks,
)
from stillknown.tables import free_indexes
from stillknown.values import is_list, is_mix, is_row_list


def check_mix(book, mix, part):
    """Refuse what is no mix of pieces of the book."""
    if not is_mix(book.kinds, mix):
        raise BadMix(part)


def book_size(book):
    """The greatest number of free pieces."""
    check_book(book)
    return len(spanning_pieces(forms_of(book), degree_of_book(book)))


def are_one(book, one, other):
    """Whether two mixes have the same sum of coefficients, and all readings tell the same of both."""
    return parted_by(book, one, other) is None


def parted_by(book, one, other):
    """None if two mixes are one, "sum", or a reading that does not tell the same of both."""
    check_book(book)
    check_mix(book, one, "one")
    check_mix(book, other, "other")
    forms = forms_of(book)
    count, blocks = total_blocks(forms, one)
    more, others = total_blocks(forms, other)
    if count != more:
        return "sum"
    return reading_apart(forms, degree_of_book(book), blocks, others)


def spanning(book):
    """Pieces that span, as many as the book's size."""
    check_book(book)
    return [list(rows) for rows, _ in spanning_pieces(forms_of(book), degree_of_book(book))]


def written(book, pieces, mix):
    """The mix, over times, as the sum of the pieces, so many times each."""
    size = book_size(book)
    if not is_list(pieces) or len(pieces) != size or not all([is_row_list(book.kinds, piece) for piece in pieces]):
        raise BadPieces("no list of as many row lists as the book's size")
    forms = forms_of(book)
    lines = [flat_blocks(blocks_of(forms, piece)) for piece in pieces]
    if len(free_indexes(lines)) < size:
        raise BadPieces("the pieces do not span")
    check_mix(book, mix, "mix")
    count, blocks = total_blocks(forms, mix)
    over, numbers = hung_on(lines, [count] + flat_blocks(blocks)[1:])
    return (over,) + numbers
