"""Rules by which expressions may be written otherwise."""

from stillknown.asked import check_question
from stillknown.errors import BadPath, BadRule
from stillknown.expressions import places_in
from stillknown.values import is_number

# A rule takes an expression and returns what it becomes, None if the rule can not be applied.


def is_made_by(expression, words):
    """Whether an expression begins with one of the words."""
    return isinstance(expression, tuple) and expression[0] in words


def swap(whole):
    """Both parts of a sum or a product change places."""
    if not is_made_by(whole, ("plus", "both")):
        return None
    word, first, second = whole
    return word, second, first


def regroup(whole):
    """The first two of three are taken apart, the last two together."""
    if not is_made_by(whole, ("plus", "both", "cuts")):
        return None
    word, left, third = whole
    if not is_made_by(left, (word,)):
        return None
    return word, left[1], (word, left[2], third)


def spread(whole):
    """A sum that stands first is spread over what stands behind it."""
    if not is_made_by(whole, ("both", "cuts")):
        return None
    word, left, third = whole
    if not is_made_by(left, ("plus",)):
        return None
    return "plus", (word, left[1], third), (word, left[2], third)


def lift(whole):
    """A number moves from the whole to its parts."""
    if not is_made_by(whole, ("times",)):
        return None
    _, number, inner = whole
    if not is_made_by(inner, ("plus", "both", "cuts")):
        return None
    word, first, second = inner
    if word == "plus":
        return "plus", ("times", number, first), ("times", number, second)
    return word, ("times", number, first), second


def turn(whole):
    """Turning round moves inwards, or is taken back."""
    if not is_made_by(whole, ("turned",)):
        return None
    inner = whole[1]
    if is_made_by(inner, ("turned",)):
        return inner[1]
    if is_made_by(inner, ("plus", "both")):
        return inner[0], ("turned", inner[1]), ("turned", inner[2])
    if is_made_by(inner, ("cuts",)):
        return "cuts", ("turned", inner[2]), ("turned", inner[1])
    if is_made_by(inner, ("times", "without")):
        return inner[0], inner[1], ("turned", inner[2])
    if is_made_by(inner, ("star",)):
        return "star", ("turned", inner[1])
    return None


def leave(whole):
    """Leaving a kind out moves inwards, or is done once."""
    if not is_made_by(whole, ("without",)):
        return None
    word, kind, inner = whole
    if is_made_by(inner, ("plus", "both")):
        return inner[0], (word, kind, inner[1]), (word, kind, inner[2])
    return passed_in(whole)


def fit(whole):
    """Asking for a pattern moves inwards, or is done once."""
    if not is_made_by(whole, ("only",)):
        return None
    word, pattern, inner = whole
    if is_made_by(inner, ("plus",)):
        return "plus", (word, pattern, inner[1]), (word, pattern, inner[2])
    if is_made_by(inner, ("both",)):
        return "both", (word, pattern, inner[1]), inner[2]
    return passed_in(whole)


def passed_in(whole):
    """What "without" or "only" becomes ahead of "times" or of the same word."""
    word, told, inner = whole
    if is_made_by(inner, ("times",)):
        return "times", inner[1], (word, told, inner[2])
    if not is_made_by(inner, (word,)):
        return None
    if inner[1] == told:
        return inner
    return word, inner[1], (word, told, inner[2])


RULES = {
    "fit": fit, "leave": leave, "lift": lift, "regroup": regroup, "spread": spread, "swap": swap,
    "turn": turn,
}


def applied(name, whole):
    """What a rule makes of an expression, None if it can not be applied."""
    rule = RULES[name]
    return rule(whole)


def at_path(expression, path):
    """What stands at a path in an expression."""
    if not isinstance(path, tuple):
        raise BadPath("no tuple of indexes")
    part = expression
    for place in path:
        if not is_number(place) or place not in places_in(part):
            raise BadPath("no index of an expression")
        part = part[place]
    return part


def put_at(expression, path, part):
    """The expression with another part at a path."""
    if path == ():
        return part
    place = path[0]
    return expression[:place] + (put_at(expression[place], path[1:], part),) + expression[place + 1:]


def rules_at(book, question, path):
    """The names of the rules that can be applied at a path."""
    check_question(book, question)
    part = at_path(question, path)
    return tuple([name for name in RULES if applied(name, part) is not None])


def rewritten(book, question, path, rule):
    """The expression with a rule applied at a path."""
    check_question(book, question)
    part = at_path(question, path)
    after = applied(rule, part) if isinstance(rule, str) and rule in RULES else None
    if after is None:
        raise BadRule("no rule that can be applied there")
    return put_at(question, path, after)
