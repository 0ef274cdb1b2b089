"""What is known of folded rows: which row lists they may have been, and what is kept of them."""

from stillknown.errors import BadAmong, BadKeep
from stillknown.leastforms import made_least
from stillknown.ownforms import own_form, row_taken
from stillknown.pieces import seen_by
from stillknown.tables import Span, dot
from stillknown.values import is_key_of, is_list, is_row_list, is_tuple_of

MOST_KEPT = 12
LONGEST_BEHIND = 12
MOST_OWN = 3


def is_kept_pair(book, value):
    """Whether a value is a pair of the name of a question and a row list of at most 12 rows."""
    if not is_tuple_of(value, 2) or not is_key_of(value[0], book.names):
        return False
    return is_row_list(book.kinds, value[1]) and len(value[1]) <= LONGEST_BEHIND


def check_keep(book, keep):
    """Refuse what is no keep."""
    if not is_list(keep):
        raise BadKeep(None)
    for at, pair in enumerate(keep):
        if at == MOST_KEPT or not is_kept_pair(book, pair):
            raise BadKeep(at)


def check_among(book, among):
    """Refuse what tells nothing of folded rows, and a pattern that no row list fits."""
    if among is None:
        return
    if is_key_of(among, book.patterns):
        pattern = book.patterns[among]
        if not any([state in pattern.good for state in reached_states(pattern)]):
            raise BadAmong("no row list fits the pattern")
    elif not is_tuple_of(among, 2) or not is_key_of(among[0], book.kinds) or not is_own_rows(among[0], among[1]):
        raise BadAmong("neither a pattern nor rows of a kind")


def is_own_rows(kind, value):
    """Whether a value is a list of at most three rows of a kind."""
    return is_row_list((kind,), value) and len(value) <= MOST_OWN


def reached_states(pattern):
    """The states to which some row list leads."""
    steps = pattern.steps
    found = [0]
    at = 0
    while at < len(found):
        for kind in steps:
            if steps[kind][found[at]] not in found:
                found.append(steps[kind][found[at]])
        at += 1
    return found


def is_let_by(book, among, rows):
    """Whether a row list is as among tells of the folded rows."""
    if among is None:
        return True
    if isinstance(among, str):
        return book.patterns[among].fits(rows)
    return [row for row in rows if row[0] == among[0]] == list(among[1])


def ways_of(book, among, degree):
    """For each state the pairs of a row that may come next and the state behind it; and the good states."""
    letters = [(kind, number) for kind in book.kinds for number in range(degree + 1)]
    if among is None:
        return [[(row, 0) for row in letters]], (0,)
    if isinstance(among, str):
        pattern = book.patterns[among]
        steps = pattern.steps
        return [[(row, steps[row[0]][state]) for row in letters] for state in range(pattern.states)], pattern.good
    kind, own = among
    ways = []
    for state in range(len(own) + 1):
        others = [(row, state) for row in letters if row[0] != kind]
        ways.append(others + [(row, state + 1) for row in own[state:state + 1]])
    return ways, (len(own),)


def flat_ends(ends):
    """All numbers that a row list leads to in one row, 1 ahead of them."""
    flat = [1]
    for row in ends.values():
        flat.extend(row)
    return flat


def past_words(forms, ways, good):
    """Row lists that are let and what they lead to, such that all that are let are sums of these.

    Pairs of a tuple of rows and a dict from the keys of the forms to rows of numbers, the shorter ones
    first. For each state those are kept that hang on none ahead of them at this state: what hangs on
    others still does behind any further row.
    """
    spans = [Span() for _ in ways]
    kept = [(0, (), {key: forms[key][0] for key in forms})]
    spans[0].take(flat_ends(kept[0][2]))
    at = 0
    while at < len(kept):
        state, word, ends = kept[at]
        at += 1
        for row, to in ways[state]:
            longer = {key: row_taken(forms[key], ends[key], row) for key in forms}
            if spans[to].take(flat_ends(longer)):
                kept.append((to, word + (row,), longer))
    span = Span()
    return [(word, ends) for state, word, ends in kept if state in good and span.take(flat_ends(ends))]


class Past:
    """Folded rows of which the answers of a keep are known; expressions that are asked have their indexes as keys."""

    def __init__(self, book, keep, expressions, among):
        questions = book.questions
        asked = {name: questions[name] for name in questions if name in [pair[0] for pair in keep]}
        for index, expression in enumerate(expressions):
            asked[index] = expression
        self.forms = {key: made_least(own_form(book, asked[key])) for key in asked}
        self.highest = max([book.degree_of(asked[key]) for key in asked], default=0)
        ways, good = ways_of(book, among, self.highest)
        self.spanning = past_words(self.forms, ways, good)
        self.kept = [[1] * len(self.spanning)] + [self.told(name, behind) for name, behind in keep]

    def told(self, key, behind):
        """The answers for the spanning row lists with these rows behind them."""
        return self.seen(key, self.column(key, behind))

    def column(self, key, behind):
        """The column that these rows behind see."""
        _, column = seen_by(self.forms[key], ((), behind))
        return column

    def seen(self, key, column):
        """What a column sees of the spanning row lists."""
        return [dot(ends[key], column) for _, ends in self.spanning]

    def ends_behind(self, key, rows):
        """For each place in the rows of numbers, behind these rows, what stands there."""
        lines = []
        for _, ends in self.spanning:
            line = ends[key]
            for row in rows:
                line = row_taken(self.forms[key], line, row)
            lines.append(line)
        # All that later rows see is a sum of what stands at these places.
        return [list(places) for places in zip(*lines)]
