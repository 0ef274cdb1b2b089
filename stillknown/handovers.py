"""What is handed on over links: papers that tell it, and the numbers that come of a filling."""

from stillknown.joining import branches_of, ways_to
from stillknown.layouts import marks_of
from stillknown.pieces import blocks_of, unit_blocks
from stillknown.tables import added, dot, free_indexes, mirrored, row_through, scaled, solved
from stillknown.values import is_key_of, is_row_list, is_tuple_of


def is_filling(book, value, many):
    """Whether a value is a filling of so many stretches."""
    return is_tuple_of(value, many) and all([is_row_list(book.kinds, rows) for rows in value])


def is_paper_of(book, ground, branches, value):
    """Whether a value is a link paper for these branches."""
    if not isinstance(value, dict) or len(value) != len(branches):
        return False
    if not all([worker in value for worker in branches]):
        return False
    return all([is_shown(book, ground, branches[worker], value[worker]) for worker in branches])


def is_shown(book, ground, lot, value):
    """Whether a value is a pair of outers and samples of a lot, as many as its crossing tells, with a regular table."""
    if not is_tuple_of(value, 2):
        return False
    outers, samples = value
    marks = marks_of(ground.layout, lot)
    if not isinstance(outers, tuple) or not is_tuple_of(samples, len(outers) + 1):
        return False
    if not all([is_outer(book, outer, marks.count(False)) for outer in outers]):
        return False
    if not all([is_filling(book, sample, marks.count(True)) for sample in samples]):
        return False
    if len(outers) != ground.crossing(lot):
        return False
    return len(free_indexes(shown_table(ground, lot, outers, samples))) == len(samples)


def is_outer(book, value, many):
    """Whether a value is a pair of the name of a question and a filling of so many stretches."""
    return is_tuple_of(value, 2) and is_key_of(value[0], book.names) and is_filling(book, value[1], many)


def placed(ground, lot, mark, filling):
    """The dict from the stretches that a lot holds, or does not hold, to the blocks of what fills them."""
    places = [at for at, holds in enumerate(marks_of(ground.layout, lot)) if holds == mark]
    return {at: blocks_of(ground.forms, rows) for at, rows in zip(places, filling)}


def answer_for(ground, key, blocks):
    """The answer of a question for all stretches joined, given the blocks of each of them."""
    row, _, end = ground.forms[key]
    for at in range(len(ground.layout)):
        row = row_through(row, blocks[at][key])
    return dot(row, end)


def shown_table(ground, lot, outers, samples):
    """The table with a row of 1 and the answers of the outers for each sample."""
    outsides = [(key, placed(ground, lot, False, filling)) for key, filling in outers]
    lines = []
    for sample in samples:
        inside = placed(ground, lot, True, sample)
        lines.append([1] + [answer_for(ground, key, {**inside, **outside}) for key, outside in outsides])
    return lines


# What stands for the rows of a branch: a list of pairs (number, blocks by stretch) and a divisor. All that
# is asked of the rows is the sum of what these pairs tell, so many times each, over the divisor.


def mix_of(ground, lot, shown, numbers):
    """What stands for a branch that hands on these numbers: the one mix of the samples that they tell."""
    outers, samples = shown
    table = shown_table(ground, lot, outers, samples)
    shares, divisor = solved(mirrored(table), [[1]] + [[number] for number in numbers])
    pairs = [
        (share[0], placed(ground, lot, True, sample)) for share, sample in zip(shares, samples) if share[0] != 0
    ]
    places = [at for at, holds in enumerate(marks_of(ground.layout, lot)) if holds]
    if len(places) == 1:
        # Answers are straight in one stretch, so the blocks themselves may be mixed.
        pairs = [(1, {places[0]: summed(ground, [(number, blocks[places[0]]) for number, blocks in pairs])})]
    return pairs, divisor


def summed(ground, pairs):
    """The sum of some blocks, so many times each."""
    nothing = unit_blocks(ground.forms)
    total = {key: scaled(0, nothing[key]) for key in nothing}
    for number, blocks in pairs:
        total = {key: added(total[key], scaled(number, blocks[key])) for key in total}
    return total


def side_by_side(one, other):
    """What stands for the rows of two lots together."""
    pairs = [(number * more, {**left, **right}) for number, left in one[0] for more, right in other[0]]
    return pairs, one[1] * other[1]


def told_over(ground, standing, key, outside):
    """The answer of a question for what stands for some rows, with the others as they are."""
    pairs, divisor = standing
    total = sum([number * answer_for(ground, key, {**inside, **outside}) for number, inside in pairs])
    # The mixes answer as the rows themselves do, so the answer is whole.
    return total // divisor


def held_by(ground, worker, blocks):
    """What stands for the rows that a worker holds itself."""
    return [(1, {at: blocks[at] for at, holder in enumerate(ground.layout) if holder == worker})], 1


def handed_over(ground, links, root, paper, filling):
    """What each worker but the root hands on, ascending, and the answers at the root."""
    blocks = [blocks_of(ground.forms, rows) for rows in filling]
    toward = ways_to(links, root)
    branches = branches_of(links, root)
    standing = {worker: held_by(ground, worker, blocks) for worker in [root] + list(toward)}
    handed = {}
    for worker in reversed(list(toward)):
        lot, nearer = branches[worker], toward[worker]
        outers = [(key, placed(ground, lot, False, outside)) for key, outside in paper[worker][0]]
        handed[worker] = tuple([told_over(ground, standing[worker], key, outside) for key, outside in outers])
        taken = mix_of(ground, lot, paper[worker], handed[worker])
        standing[nearer] = side_by_side(standing[nearer], taken)
    answers = tuple([told_over(ground, standing[root], key, {}) for key in ground.forms])
    return {worker: handed[worker] for worker in sorted(handed)}, answers
