"""The parameters that many functions share: book, question, kinds."""

from stillknown.books import BOUND_OF_ONE, Book
from stillknown.errors import BadBook, BadKinds, TooMany
from stillknown.values import is_list, is_name


def check_question(book, question):
    """Refuse what is no book, and what is no expression over it with a bound that is let."""
    if not isinstance(book, Book):
        raise BadBook(None)
    if book.bound_of(question) > BOUND_OF_ONE:
        raise TooMany(BOUND_OF_ONE)


def checked_kinds(kinds):
    """The kinds, ascending, if they are a list of 1 to 3 different names."""
    if not is_list(kinds) or not 1 <= len(kinds) <= 3 or not all([is_name(kind) for kind in kinds]):
        raise BadKinds("no list of 1 to 3 different names")
    if not all([kinds.count(kind) == 1 for kind in kinds]):
        raise BadKinds("a kind stands there twice")
    return tuple(sorted(kinds))
