"""Layouts, links and crossings reckoned plainly, for the tests of links and trees."""

from stillknown.spaces import book_size, spanning
from tests.books import KINDS
from tests.plain import plain_answer, random_book, random_questions, rank_of

NAMES = ("ann", "bob", "cy", "dee", "eve", "flo")


def small_book(chance, most, kinds=KINDS, powers=(0, 1)):
    """A book made at random with a size of at most so much."""
    while True:
        book = random_questions(chance, random_book(chance, kinds, powers), 4, 3, 7)
        if book_size(book) <= most:
            return book


def joined_rows(layout, lot, inside, outside):
    """All stretches joined, those of a lot taken from inside, the others from outside."""
    left, right = list(inside), list(outside)
    return [row for worker in layout for row in (left if worker in lot else right).pop(0)]


def all_fillings(pieces, many):
    """All fillings of so many stretches by some pieces."""
    fillings = [()]
    for _ in range(many):
        fillings = [filling + (piece,) for filling in fillings for piece in pieces]
    return fillings


def plain_crossing(book, layout, lot):
    """One less than the rank of a table of answers for all fillings by pieces that span."""
    pieces = spanning(book)
    inside = [worker in lot for worker in layout].count(True)
    outers = all_fillings(pieces, len(layout) - inside)
    table = [[1] + [answer for outside in outers
                    for answer in book.answers(joined_rows(layout, lot, sample, outside)).values()]
             for sample in all_fillings(pieces, inside)]
    return rank_of(table) - 1


def beyond(links, gone, worker):
    """The workers that are still joined to one if a link is gone, ascending."""
    found = {worker}
    while True:
        more = {there for one, other in links if (one, other) != gone
                for here, there in ((one, other), (other, one)) if here in found}
        if more <= found:
            return sorted(found)
        found |= more


def plain_branches(links, root):
    """For each worker but the root its branch: what is cut off from the root with the link towards it."""
    branches = {}
    for gone in links:
        sides = [(worker, beyond(links, gone, worker)) for worker in gone]
        for worker, side in sides:
            if root not in side:
                branches[worker] = side
    return branches


def random_tree(chance, workers):
    """A tree made at random."""
    links = []
    for at in range(1, len(workers)):
        pair = [workers[at], workers[chance.randrange(at)]]
        chance.shuffle(pair)
        links.append(tuple(pair))
    chance.shuffle(links)
    return links


def random_layout(chance, workers, most=4):
    """A layout made at random of some of the workers."""
    return tuple(chance.choice(workers) for _ in range(chance.randint(1, most)))


def plain_of(book, name, rows):
    """The plain answer of a question."""
    return plain_answer(book, book.questions[name], rows)
