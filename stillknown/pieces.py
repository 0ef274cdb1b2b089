"""Pieces of rows in the space of some questions: what they do in all surroundings.

The questions are given as a dict from keys to least forms over the same kinds. In a least form the
rows of numbers that row lists ahead lead to, and the columns that row lists behind see, span all there
are, so two pieces are one for all readings just if the product of the tables of their rows is the same
in each form. These products are called the blocks of a piece: a dict from the keys to tables.
"""

from stillknown.leastforms import free_words, made_least, row_letters
from stillknown.ownforms import own_form, row_table, rows_taken, turned_form
from stillknown.tables import Span, added, dot, free_indexes, multiplied, row_through, scaled, units, zeros


def forms_of(book):
    """The least forms of the questions of a book, by their names."""
    questions = book.questions
    return {name: made_least(own_form(book, questions[name])) for name in questions}


def degree_of_book(book):
    """The greatest degree of a question."""
    return max([book.degree(name) for name in book.names])


def unit_blocks(forms):
    """The blocks of the piece without rows."""
    return {key: units(len(forms[key][0])) for key in forms}


def row_blocks(forms, row):
    """The blocks of a piece of one row."""
    return {key: row_table(forms[key], row) for key in forms}


def joined_blocks(one, other):
    """The blocks of two pieces, one behind the other."""
    return {key: multiplied(one[key], other[key]) for key in one}


def blocks_of(forms, rows):
    """The blocks of a piece."""
    blocks = unit_blocks(forms)
    for row in rows:
        blocks = joined_blocks(blocks, row_blocks(forms, row))
    return blocks


def flat_blocks(blocks):
    """All numbers of some blocks in one row, 1 ahead of them."""
    flat = [1]
    for table in blocks.values():
        for line in table:
            flat.extend(line)
    return flat


def total_blocks(forms, mix):
    """The sum of the coefficients of a mix, and the sum of the blocks of its pieces, so many times each."""
    count = 0
    total = {key: zeros(len(forms[key][0]), len(forms[key][0])) for key in forms}
    for coefficient, piece in mix:
        count += coefficient
        blocks = blocks_of(forms, piece)
        total = {key: added(total[key], scaled(coefficient, blocks[key])) for key in forms}
    return count, total


def row_pieces(forms, degree):
    """Pairs of a row and its blocks, for enough of the rows with the numbers from 0 to degree."""
    kinds = sorted(forms[min(forms)][1])
    rows = [(kind, number) for kind in kinds for number in range(degree + 1)]
    pieces = [(row, row_blocks(forms, row)) for row in rows]
    # A row that is a sum of others, some times each, leads nowhere that those do not lead.
    return [pieces[at] for at in free_indexes([flat_blocks(blocks) for _, blocks in pieces])]


def spanning_pieces(forms, degree):
    """Free pieces that span all pieces, each a pair of a tuple of rows and its blocks, the shorter ones first."""
    letters = row_pieces(forms, degree)
    span = Span()
    kept = [((), unit_blocks(forms))]
    span.take(flat_blocks(kept[0][1]))
    at = 0
    while at < len(kept):
        rows, blocks = kept[at]
        at += 1
        for row, step in letters:
            longer = joined_blocks(blocks, step)
            if span.take(flat_blocks(longer)):
                kept.append((rows + (row,), longer))
    return kept


def words_ahead(form, degree):
    """Row lists ahead, with the rows of numbers they lead to, that span all of these; the shorter ones first."""
    return [(list(word), row) for word, row in free_words(form[0], row_letters(form, degree))]


def words_behind(form, degree):
    """Row lists behind, with the columns they see, that span all of these; the shorter ones first."""
    turned = turned_form(form)
    return [(list(word[::-1]), column) for word, column in free_words(turned[0], row_letters(turned, degree))]


def seen_by(form, surrounding):
    """What a surrounding has ahead and behind, as a row and a column of numbers."""
    ahead, behind = surrounding
    return rows_taken(form, ahead), rows_taken(turned_form(form), behind[::-1])


def value_at(ends, table):
    """What the reading with this row and column tells of a piece with this table."""
    row, column = ends
    return dot(row_through(row, table), column)


def told_of(form, key, surrounding, pieces):
    """What a reading tells of pieces, given as pairs with their blocks."""
    ends = seen_by(form, surrounding)
    return [value_at(ends, blocks[key]) for _, blocks in pieces]


def surroundings_of(form, degree):
    """Surroundings whose readings span all readings of the question, those with the fewest rows first."""
    behinds = words_behind(form, degree)
    pairs = [(list(ahead), list(behind)) for ahead, _ in words_ahead(form, degree) for behind, _ in behinds]
    return sorted(pairs, key=rows_around)


def rows_around(surrounding):
    """How many rows a surrounding has."""
    return len(surrounding[0]) + len(surrounding[1])


def readings_shown(form, key, degree, pieces):
    """The same surroundings in the same order, as pairs with what their readings tell of pieces."""
    behinds = words_behind(form, degree)
    tables = [blocks[key] for _, blocks in pieces]
    found = []
    for ahead, row in words_ahead(form, degree):
        # What the rows ahead lead to is the same for all rows behind.
        through = [row_through(row, table) for table in tables]
        for behind, column in behinds:
            told = [dot(line, column) for line in through]
            found.append(((list(ahead), list(behind)), told))
    return sorted(found, key=lambda pair: rows_around(pair[0]))


def seen_apart(form, degree, table):
    """A surrounding in which a table other than all zeros is seen."""
    behinds = words_behind(form, degree)
    for ahead, row in words_ahead(form, degree):
        through = row_through(row, table)
        for behind, column in behinds:
            if dot(through, column) != 0:
                return ahead, behind
    return None


def reading_apart(forms, degree, one, other):
    """A reading, key and surrounding, that does not tell the same of two blocks; None if there is none."""
    for key in forms:
        if one[key] != other[key]:
            table = added(one[key], scaled(-1, other[key]))
            return key, seen_apart(forms[key], degree, table)
    return None
