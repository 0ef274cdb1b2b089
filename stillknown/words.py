"""Words on a line: numbers, sums and expressions, written and read."""

from stillknown.expressions import has_told_item, length_of
from stillknown.loops import is_sum
from stillknown.values import is_key_of, is_name

DIGITS = "0123456789"
MOST_DIGITS = 30
POWERS = ("", "*t", "*t2")


def number_in(word):
    """The number of at most 30 digits that Python writes as this word; None if there is none."""
    digits = word[1:] if word.startswith("-") else word
    if not 1 <= len(digits) <= MOST_DIGITS or not all([digit in DIGITS for digit in digits]):
        return None
    if digits[0] == "0" and word != "0":
        return None
    return int(word)


def words_for(expression):
    """The words of an expression, as a list."""
    if isinstance(expression, str):
        return ["=" + expression]
    words = [expression[0]]
    rest = expression[1:]
    if has_told_item(expression[0]):
        words.append(str(rest[0]))
        rest = rest[1:]
    for part in rest:
        words.extend(words_for(part))
    return words


def waits_for_told_item(begun):
    """Whether a number, a kind or a pattern's name must come next in the last one of the begun expressions."""
    return len(begun) > 0 and len(begun[-1]) == 1 and has_told_item(begun[-1][0])


def told_item(first, word):
    """The number or name that a word tells behind this first item; None if it tells none."""
    if first == "times":
        return number_in(word)
    return word if is_name(word) else None


def loop_name(word):
    """The name of a loop that a word tells; None if it tells none."""
    return word[1:] if word.startswith("=") and is_name(word[1:]) else None


def put_in(begun, item):
    """Put an item into the last one of the begun expressions, ending all that are whole then.

    The whole expression if none is left open, otherwise None.
    """
    while len(begun) > 0:
        begun[-1].append(item)
        if len(begun[-1]) < length_of(begun[-1][0]):
            return None
        item = tuple(begun.pop())
    return item


def expression_in(words):
    """The expression with these words, whatever its names and numbers are; None if they have not the form."""
    begun = []
    whole = None
    # Without calls of itself, since words may go as deep as a line is long.
    for word in words:
        if whole is not None:
            return None
        if waits_for_told_item(begun):
            item = told_item(begun[-1][0], word)
        elif length_of(word) is not None:
            begun.append([word])
            continue
        else:
            item = loop_name(word)
        if item is None:
            return None
        whole = put_in(begun, item)
    return whole


def term_text(term):
    """A term as it is written."""
    name, power, coefficient = term
    return str(coefficient) + ("*" + name if name != "" else "") + POWERS[power]


def sum_text(terms):
    """A sum as it is written."""
    return " + ".join([term_text(term) for term in terms]) if len(terms) > 0 else "0"


def term_in(variables, text):
    """The term that is written so; None if there is none."""
    first, *rest = text.split("*")
    power = 0
    if len(rest) > 0 and rest[-1] in ("t", "t2"):
        power = 1 if rest.pop() == "t" else 2
    coefficient = number_in(first)
    if coefficient is None or len(rest) > 1 or not all([is_key_of(name, variables) for name in rest]):
        return None
    return rest[0] if len(rest) > 0 else "", power, coefficient


def sum_in(variables, text):
    """The sum over some variables that is written so; None if there is none."""
    if text == "0":
        return ()
    terms = tuple([term_in(variables, part) for part in text.split(" + ")])
    return terms if is_sum(variables, terms) else None
