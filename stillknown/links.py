"""Workers in a tree of links: what each one must hand on, all at once, and what it hands on."""

from stillknown.asked import check_book
from stillknown.errors import BadFilling, BadLayout, BadLinks, BadLot, BadPaper, BadRoot, TooMany
from stillknown.handovers import handed_over, is_filling, is_paper_of
from stillknown.joining import branches_of, is_pair_of_workers, is_tree, workers_of
from stillknown.layouts import Ground, is_layout
from stillknown.values import is_key_of, is_list, is_name

MOST_LINKED = 6
LARGEST_BOOK = 9


def check_layout(book, layout):
    """Refuse what is no book, and what is no layout."""
    check_book(book)
    if not is_layout(layout):
        raise BadLayout("no tuple of 1 to 4 workers")


def ground_of(book, layout):
    """The ground of a layout, unless the book is too large."""
    ground = Ground(book, layout)
    if len(ground.pieces) > LARGEST_BOOK:
        raise TooMany(LARGEST_BOOK)
    return ground


def check_links(book, layout, links):
    """The workers of the links, ascending, unless a parameter is wrong."""
    check_layout(book, layout)
    if not is_list(links) or not all([is_pair_of_workers(pair) for pair in links]):
        raise BadLinks("no list of pairs of different workers")
    if len(links) == 0:
        if len(set(layout)) > 1:
            raise BadLinks("several workers without a link")
        return [layout[0]]
    workers = workers_of(links)
    if len(workers) > MOST_LINKED or not is_tree(links):
        raise BadLinks("no tree of at most 6 workers")
    if len(set(layout)) == 1 or not all([worker in workers for worker in layout]):
        raise BadLinks("not the workers of the layout")
    return workers


def checked_ground(book, layout, links, root):
    """The ground of a layout, unless a parameter is wrong or the book too large."""
    workers = check_links(book, layout, links)
    if not is_key_of(root, workers):
        raise BadRoot("no worker of the links")
    return ground_of(book, layout)


def numbers_over(ground, links, root):
    """The crossings of all branches."""
    branches = branches_of(links, root)
    return {worker: ground.crossing(branches[worker]) for worker in branches}


def crossing(book, layout, lot):
    """The least number of fractions that a lot of workers can hand on, on which all answers hang straight."""
    check_layout(book, layout)
    if not is_list(lot) or not all([is_name(worker) for worker in lot]) or len(set(lot)) < len(lot):
        raise BadLot("no list of different workers")
    return ground_of(book, layout).crossing(lot)


def link_numbers(book, layout, links, root):
    """How many numbers each worker but the root must hand on towards it."""
    return numbers_over(checked_ground(book, layout, links, root), links, root)


def best_roots(book, layout, links):
    """The workers, ascending, with which as roots all link numbers together are least."""
    workers = check_links(book, layout, links)
    ground = ground_of(book, layout)
    sums = [sum(list(numbers_over(ground, links, root).values())) for root in workers]
    return [worker for worker, total in zip(workers, sums) if total == min(sums)]


def link_paper(book, layout, links, root):
    """For each worker but the root what it hands on, with samples that show that fewer numbers are not enough."""
    ground = checked_ground(book, layout, links, root)
    branches = branches_of(links, root)
    return {worker: ground.shown(branches[worker]) for worker in branches}


def is_link_paper(book, layout, links, root, thing):
    """Whether any value is a link paper."""
    ground = checked_ground(book, layout, links, root)
    return is_paper_of(book, ground, branches_of(links, root), thing)


def over_links(book, layout, links, root, paper, filling):
    """What each worker but the root hands on, worked out from the links alone, and the answers at the root."""
    ground = checked_ground(book, layout, links, root)
    if not is_paper_of(book, ground, branches_of(links, root), paper):
        raise BadPaper("no link paper")
    if not is_filling(book, filling, len(layout)):
        raise BadFilling("no filling of the whole layout")
    return handed_over(ground, links, root, paper, filling)
