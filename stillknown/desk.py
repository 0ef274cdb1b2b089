"""A desk: a house that is told deeds and asked by lines of words."""

from stillknown.deeds import do_deed
from stillknown.errors import StillError
from stillknown.live import House
from stillknown.texts import book_lines, read_book
from stillknown.values import is_name
from stillknown.words import expression_in, number_in

# What stands behind the first word of a line that has so many words.
FORMS = {
    "put": ("at", "name", "number"), "strike": ("at",), "mend": ("at", "number"), "move": ("at", "at"),
    "drop": ("name",), "undo": (), "answers": (), "open": (), "numbers": (), "text": (),
}


def item_in(form, word):
    """What a word tells in a place of this form; None if it tells nothing there."""
    if form == "name":
        return word if is_name(word) else None
    number = number_in(word)
    if number is None or (form == "at" and number < 0):
        return None
    return number


def items_in(first, words):
    """What the words behind the first one tell, as a list; None if the line has not its form."""
    if first in FORMS:
        forms = FORMS[first]
        items = [item_in(form, word) for form, word in zip(forms, words)]
        return items if len(words) == len(forms) and all([item is not None for item in items]) else None
    if first == "fold":
        names = [] if words == ["-"] else words
        has_form = len(words) > 0 and all([is_name(name) for name in names])
        return [[(name, []) for name in names]] if has_form else None
    if first == "learn":
        expression = expression_in(words[1:])
        return [words[0], expression] if expression is not None and is_name(words[0]) else None
    if first == "ask" or first == "known":
        expression = expression_in(words)
        return [expression] if expression is not None else None
    return None


def joined_or_none(words):
    """Some words with spaces between them, - if there are none."""
    return " ".join(words) if len(words) > 0 else "-"


def asked_of(house, first, items):
    """What a house answers to a line that asks; None if the line tells a deed."""
    if first == "ask":
        return str(house.tell(items[0]))
    if first == "known":
        return "yes" if house.knows(items[0]) else "no"
    if first == "answers":
        answers = house.answered()
        return joined_or_none([f"{name} {answers[name]}" for name in answers])
    if first == "open":
        return str(len(house))
    if first == "numbers":
        return joined_or_none([str(number) for number in house.numbers])
    if first == "text":
        return "; ".join(book_lines(house.book))
    return None


def deed_of(first, items):
    """The deed that a line tells."""
    if first == "put":
        at, kind, number = items
        return first, at, (kind, number)
    return first, *items


class Desk:
    """A desk with a house for the book of a text."""

    def __init__(self, text):
        self._house = House(read_book(text))

    def say(self, line):
        """What the desk answers to a line."""
        first, *words = line.split(" ") if isinstance(line, str) else [""]
        items = items_in(first, words)
        if items is None:
            return "what"
        try:
            told = asked_of(self._house, first, items)
            if told is None:
                do_deed(self._house, deed_of(first, items))
        except StillError as wrong:
            return "error " + wrong.__class__.__name__.lower()
        return "ok" if told is None else told
