"""The parameters that many functions share: book, question, name, kinds, readings."""

from stillknown.books import BOUND_OF_ONE, Book
from stillknown.errors import BadBook, BadKind, BadKinds, BadReading, BadReadings, NoQuestion, TooMany
from stillknown.values import is_key_of, is_list, is_name, is_surrounding, is_tuple_of


def check_book(book):
    """Refuse what is no book."""
    if not isinstance(book, Book):
        raise BadBook(None)


def check_question(book, question):
    """Refuse what is no book, and what is no expression over it with a bound that is let."""
    check_book(book)
    if book.bound_of(question) > BOUND_OF_ONE:
        raise TooMany(BOUND_OF_ONE)


def check_name(book, name):
    """Refuse what is no name of a question of the book."""
    if not is_key_of(name, book.names):
        raise NoQuestion(name)


def check_kind(book, kind):
    """Refuse what is no kind of the book."""
    if not is_key_of(kind, book.kinds):
        raise BadKind(kind)


def checked_kinds(kinds):
    """The kinds, ascending, if they are a list of 1 to 3 different names."""
    if not is_list(kinds) or not 1 <= len(kinds) <= 3 or not all([is_name(kind) for kind in kinds]):
        raise BadKinds("no list of 1 to 3 different names")
    if not all([kinds.count(kind) == 1 for kind in kinds]):
        raise BadKinds("a kind stands there twice")
    return tuple(sorted(kinds))


def is_reading(book, value):
    """Whether a value is a pair of the name of a question of the book and a surrounding."""
    return is_tuple_of(value, 2) and is_key_of(value[0], book.names) and is_surrounding(book.kinds, value[1])


def check_readings(book, readings, most):
    """Refuse what is no list of readings of the book, at most so many; None for any number of them."""
    if not is_list(readings) or (most is not None and len(readings) > most):
        raise BadReadings(None)
    for at, reading in enumerate(readings):
        if not is_reading(book, reading):
            raise BadReadings(at)


def check_reading(book, wish):
    """Refuse what is no reading of the book."""
    if not is_reading(book, wish):
        raise BadReading("no reading of the book")
