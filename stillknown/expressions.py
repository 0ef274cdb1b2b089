"""Expressions over loops and patterns: their form, their bound and their degree."""

from stillknown.values import is_key_of, is_within

DEEPEST = 5

# For each word: how many items the tuple has, and at which indexes expressions stand in it.
LENGTHS = {
    "plus": 3, "times": 3, "both": 3, "cuts": 3, "star": 2, "turned": 2, "without": 3, "only": 3,
}
PLACES = {
    "plus": (1, 2), "times": (2,), "both": (1, 2), "cuts": (1, 2), "star": (1,), "turned": (1,),
    "without": (2,), "only": (2,),
}


def has_own_form(loops, patterns, kinds, part):
    """Whether a value is an expression, as far as the parts in it are not looked at."""
    if isinstance(part, str):
        return part in loops
    if not isinstance(part, tuple) or len(part) == 0:
        return False
    word = part[0]
    if not isinstance(word, str) or word not in LENGTHS or len(part) != LENGTHS[word]:
        return False
    if word == "times":
        return is_within(part[1], -9, 9)
    if word == "without":
        return is_key_of(part[1], kinds)
    if word == "only":
        return is_key_of(part[1], patterns)
    return True


def places_in(expression):
    """The indexes of an expression at which expressions stand."""
    if isinstance(expression, str):
        return ()
    return PLACES[expression[0]]


def wrong_spot(loops, patterns, kinds, expression, deep=1):
    """The indexes that lead to the first part whose own form is wrong; None if there is none."""
    if deep > DEEPEST or not has_own_form(loops, patterns, kinds, expression):
        return ()
    for place in places_in(expression):
        spot = wrong_spot(loops, patterns, kinds, expression[place], deep + 1)
        if spot is not None:
            return (place,) + spot
    return None


def loop_degree(loop):
    """The greatest power of a term in the steps of a loop."""
    sums = [terms for row_sums in loop.steps.values() for terms in row_sums.values()]
    return max([term[1] for terms in sums for term in terms], default=0)


def bound_over(loops, patterns, expression):
    """The bound of an expression."""
    if isinstance(expression, str):
        return len(loops[expression].variables) + 1
    word = expression[0]
    bounds = [bound_over(loops, patterns, expression[place]) for place in places_in(expression)]
    if word == "plus" or word == "cuts":
        return bounds[0] + bounds[1]
    if word == "both":
        return bounds[0] * bounds[1]
    if word == "star":
        return bounds[0] + 1
    if word == "only":
        return bounds[0] * patterns[expression[1]].states
    return bounds[0]


def degree_over(loops, expression):
    """The degree of an expression."""
    if isinstance(expression, str):
        return loop_degree(loops[expression])
    degrees = [degree_over(loops, expression[place]) for place in places_in(expression)]
    if expression[0] == "both":
        return degrees[0] + degrees[1]
    return max(degrees)


def length_of(word):
    """How many items an expression that begins with a word has; None if none begins with it."""
    return LENGTHS.get(word)


def has_told_item(word):
    """Whether a number, a kind or a pattern's name stands behind this first item."""
    return PLACES[word][0] == 2
