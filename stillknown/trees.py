"""Cheapest trees of ties between workers, and crossings that grow without end."""

from itertools import combinations

from stillknown.asked import check_book
from stillknown.errors import BadNumber, BadTie, BadTies
from stillknown.exchange import change_apart, changes
from stillknown.joining import do_join, is_pair_of_workers, is_tree, workers_of
from stillknown.links import MOST_LINKED, check_layout, ground_of, numbers_over
from stillknown.values import is_list, is_within

MOST_TIES = 9
MOST_TURNS = 6


def check_ties(book, layout, ties):
    """Refuse what is no list of ties that join all workers of the layout."""
    check_layout(book, layout)
    if not is_list(ties) or not 1 <= len(ties) <= MOST_TIES:
        raise BadTies("no list of 1 to 9 pairs")
    if not all([is_pair_of_workers(tie) and tie[0] < tie[1] for tie in ties]) or len(set(ties)) < len(ties):
        raise BadTies("not different ascending pairs of workers")
    workers = workers_of(ties)
    if len(workers) > MOST_LINKED or not do_join(ties) or not all([worker in workers for worker in layout]):
        raise BadTies("they do not join all workers of the layout, at most 6")


def trees_over(ground, ties):
    """The least sum of link numbers of all trees of some ties, and the trees that have it."""
    workers = workers_of(ties)
    pairs = sorted(ties)
    found = []
    for links in combinations(pairs, int(len(workers) - 1)):
        if is_tree(links):
            sums = [sum(list(numbers_over(ground, links, root).values())) for root in workers]
            found.append((min(sums), links))
    least = min([total for total, _ in found])
    return least, [links for total, links in found if total == least]


def best_trees(book, layout, ties):
    """The least sum of link numbers of all trees of some of the ties, with any root, and these trees."""
    check_ties(book, layout, ties)
    return trees_over(ground_of(book, layout), ties)


def without_tie(book, layout, ties, gone):
    """The same for the ties without one; None if they do not join all workers any more."""
    check_ties(book, layout, ties)
    if gone not in ties:
        raise BadTie("none of the ties")
    ground = ground_of(book, layout)
    left = [tie for tie in ties if tie != gone]
    if workers_of(left) != workers_of(ties) or not do_join(left):
        return None
    return trees_over(ground, left)


def grows(book):
    """A question, and two rows between row lists that may not change places; None if there are none."""
    check_book(book)
    let = changes(book)
    for kind in book.kinds:
        for other in book.kinds:
            if kind <= other and (kind, other) not in let:
                x, y, (name, (ahead, behind)) = change_apart(book, kind, other)
                return name, ahead, (kind, x), (other, y), behind
    return None


def round_bar(book, many):
    """Outers and samples for two workers in turn that show that one fewer than the turns must be handed on."""
    check_book(book)
    if not is_within(many, 1, MOST_TURNS):
        raise BadNumber("many")
    found = grows(book)
    if found is None:
        return None
    name, ahead, one, other, behind = found
    # The one row stands ahead of the other one just if its turn does not come behind the other's.
    samples = [held_in_turns(many, turn, ahead, one, []) for turn in range(many)]
    outers = [(name, held_in_turns(many, turn, [], other, behind)) for turn in range(many - 1)]
    return tuple(outers), tuple(samples)


def held_in_turns(many, turn, ahead, row, behind):
    """So many row lists without rows, but for a row at one of them, and rows at the first and the last one."""
    lists = [[] for _ in range(turn)] + [[row]] + [[] for _ in range(turn + 1, many)]
    lists[0] = ahead + lists[0]
    lists[-1] = lists[-1] + behind
    return tuple(lists)
