"""Journals: deeds with what was answered behind each one."""

from stillknown.asked import check_book
from stillknown.deeds import do_deed, is_deed
from stillknown.errors import BadJournal, StillError
from stillknown.live import House
from stillknown.values import is_list, is_number, is_tuple_of


def journal_of(house):
    """The journal of a house's log."""
    return house.history()


def is_done(house, deed):
    """Let a house do what may be a deed; whether it is one that the house does not refuse."""
    if not is_deed(deed):
        return False
    try:
        do_deed(house, deed)
    except StillError:
        return False
    return True


def is_same(answers, value):
    """Whether a value is the dict of these answers."""
    if not isinstance(value, dict) or len(value) != len(answers):
        return False
    return all([name in value and is_number(value[name]) and value[name] == answers[name] for name in answers])


def done(house, journal):
    """Let a house do the deeds of a journal up to the first wrong item; its index, None if there is none."""
    if not is_list(journal):
        return 0
    for at, item in enumerate(journal):
        if not is_tuple_of(item, 2) or not is_done(house, item[0]) or not is_same(house.answered(), item[1]):
            return at
    return None


def first_wrong(book, journal):
    """The index of the first item that can not stand in a journal of a house of the book; None if there is none."""
    check_book(book)
    return done(House(book), journal)


def replayed(book, journal):
    """The house behind a journal."""
    check_book(book)
    house = House(book)
    at = done(house, journal)
    if at is not None:
        raise BadJournal(at)
    return house
