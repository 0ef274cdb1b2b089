"""The book turned over: what must be read again, and what must be held for all later versions."""

from stillknown.books import Book
from stillknown.errors import BadBook, BadBooks, BadMarks, BadNumber, BadReading, NoQuestion, NoVersion, OtherKinds
from stillknown.hanging import column_apart, hang_all, hung_on
from stillknown.pieces import words_ahead, words_behind
from stillknown.shelves import Shelf, both_spans, is_blend, is_row_reading, size_of, span_of
from stillknown.tables import first_place, free_indexes
from stillknown.values import is_key_of, is_list, is_mix, is_number, is_tuple_of, is_within

MOST_PIECES = 12


def check_old_and_new(old, new):
    """Refuse what is no book, and books with other kinds."""
    if not isinstance(old, Book):
        raise BadBook("old")
    if not isinstance(new, Book):
        raise BadBook("new")
    if old.kinds != new.kinds:
        raise OtherKinds("the books have other kinds")


def check_versions(versions):
    """Refuse what is no list of 2 to 4 books with the same kinds."""
    if not is_list(versions) or not 2 <= len(versions) <= 4:
        raise BadBooks(None)
    for at, version in enumerate(versions):
        if not isinstance(version, Book) or version.kinds != versions[0].kinds:
            raise BadBooks(at)


def check_new_name(new, name):
    """Refuse what is no name of a question of new."""
    if not is_key_of(name, new.names):
        raise NoQuestion(name)


def told_rows(readings):
    """What some readings tell."""
    return [told for _, told in readings]


def version_rows(shelf, versions):
    """For each version 1 and what readings tell on which all of its readings hang."""
    return [
        [shelf.ones] + told_rows(shelf.readings(at, version.names)) for at, version in enumerate(versions)
    ]


def told_questions(old, new):
    """The questions of new all of whose readings hang straight on readings of old."""
    check_old_and_new(old, new)
    shelf = Shelf([old, new])
    rows = [shelf.ones] + told_rows(shelf.readings(0, old.names))
    return [name for name in new.names if hang_all(rows, told_rows(shelf.readings(1, [name])))]


def read_again(old, new):
    """How many numbers must be read again for each piece."""
    return len(again(old, new))


def again(old, new):
    """As few readings of new as can be with which, and with those of old, all readings of new hang straight."""
    check_old_and_new(old, new)
    shelf = Shelf([old, new])
    span = span_of([[shelf.ones], told_rows(shelf.readings(0, old.names))])
    return [reading for reading, told in shelf.readings(1, new.names) if span.take(told)]


def is_again(old, new, thing):
    """Whether any value is a list of different readings of new that are enough."""
    check_old_and_new(old, new)
    if not is_list(thing):
        return False
    for reading in thing:
        if not is_row_reading([old, new], reading, 2) or reading[0] != 1:
            return False
    plain = [(name, list(where[0]), list(where[1])) for _, name, where in thing]
    if not all([plain.count(reading) == 1 for reading in plain]):
        return False
    shelf = Shelf([old, new])
    rows = [shelf.ones] + told_rows(shelf.readings(0, old.names)) + [shelf.told(reading) for reading in thing]
    return hang_all(rows, told_rows(shelf.readings(1, new.names)))


def check_new_reading(old, new, reading):
    """Refuse what is no reading of new, as one of a row of two versions."""
    check_old_and_new(old, new)
    if not is_row_reading([old, new], reading, 2) or reading[0] != 1:
        raise BadReading("no reading of new")


def telling(old, new, reading):
    """How a reading of new is told by old, or a mix that shows that it is not."""
    check_new_reading(old, new, reading)
    shelf = Shelf([old, new])
    readings = shelf.readings(0, old.names)
    rows = [shelf.ones] + told_rows(readings)
    wish = shelf.told(reading)
    found = hung_on(rows, wish)
    if found is None:
        column = column_apart(rows, wish)
        return "untold", [(number, list(piece)) for number, (piece, _) in zip(column, shelf.pieces) if number != 0]
    over, numbers = found
    items = [None] + [item for item, _ in readings]
    blend = [(number, item) for number, item in zip(numbers, items) if number != 0]
    # A blend has a pair at least, also where there is nothing to tell.
    return "told", over, blend if len(blend) > 0 else [(1, None), (-1, None)]


def is_telling(old, new, reading, thing):
    """Whether any value is a telling of a reading of new."""
    check_new_reading(old, new, reading)
    if is_tuple_of(thing, 3) and is_key_of(thing[0], ("told",)):
        _, over, blend = thing
        if not is_number(over) or over < 1 or not is_blend([old, new], blend, 1):
            return False
        shelf = Shelf([old, new])
        return [over * number for number in shelf.told(reading)] == shelf.blended(blend)
    if not is_tuple_of(thing, 2) or not is_key_of(thing[0], ("untold",)) or not is_mix(old.kinds, thing[1]):
        return False
    shelf = Shelf([old, new])
    count, blocks = shelf.total(thing[1])
    told = [shelf.told_of_total(own, blocks) for own, _ in shelf.readings(0, old.names)]
    return count == 0 and not any([number != 0 for number in told]) and shelf.told_of_total(reading, blocks) != 0


def ledger(versions):
    """For each version how many numbers are read anew, and how many must be held."""
    check_versions(versions)
    rows = version_rows(Shelf(versions), versions)
    whole = size_of(rows)
    lines = []
    ahead = 1
    for at in range(len(versions)):
        grown = size_of(rows[:at + 1])
        # What is told up to here and also from here on: its size by those of both, and of all.
        lines.append((grown - ahead, grown + size_of(rows[at:]) - whole - 1))
        ahead = grown
    return lines


def check_version(versions, at):
    """Refuse what is no list of versions, and what is no index of one."""
    check_versions(versions)
    if not is_within(at, 0, len(versions) - 1):
        raise NoVersion(at)


def own_item(item):
    """An item of a blend with row lists of its own."""
    if item is None:
        return None
    version, name, (ahead, behind) = item
    return version, name, (list(ahead), list(behind))


def least_held(shelf, versions, at):
    """Blends, with their worths, that with 1 span the least space that must be held at a version."""
    own = shelf.readings(at, versions[at].names)
    held = [([(1, reading)], told) for reading, told in own]
    span = span_of([[shelf.ones], told_rows(own)])
    items, rows = [None], [shelf.ones]
    ahead = span_of([[shelf.ones]])
    for version in range(at + 1):
        for reading, told in shelf.readings(version, versions[version].names):
            if ahead.take(told):
                items.append(reading)
                rows.append(told)
    later = [shelf.ones]
    for version in range(at + 1, len(versions)):
        later.extend(told_rows(shelf.readings(version, versions[version].names)))
    for numbers in both_spans(rows, [later[place] for place in free_indexes(later)]):
        blend = [(number, own_item(item)) for number, item in zip(numbers, items) if number != 0]
        worth = shelf.blended(blend)
        if span.take(worth):
            held.append((blend, worth))
    return held


def holding(versions, at):
    """As few blends as can be that span what must be held at a version."""
    check_version(versions, at)
    return [blend for blend, _ in least_held(Shelf(versions), versions, at)]


def is_holding(versions, at, thing):
    """Whether any value is a list of blends on which all hangs that must be held at a version."""
    check_version(versions, at)
    if not is_list(thing) or not all([is_blend(versions, blend, at + 1) for blend in thing]):
        return False
    shelf = Shelf(versions)
    rows = [shelf.ones] + [shelf.blended(blend) for blend in thing]
    return hang_all(rows, [worth for _, worth in least_held(shelf, versions, at)])


def forgetful(versions):
    """How many numbers are read anew at each version if only what it needs itself is held."""
    check_versions(versions)
    rows = version_rows(Shelf(versions), versions)
    lines = [size_of(rows[:1]) - 1]
    for at in range(1, len(versions)):
        lines.append(size_of(rows[at - 1:at + 1]) - size_of(rows[at - 1:at]))
    return lines


def untold_places(old, new, name, many):
    """The places of so many pieces at which some reading of a question of new is not told by old."""
    shelf = Shelf([old, new])
    span = span_of([[shelf.ones], told_rows(shelf.readings(0, old.names))])
    form = shelf.unlike[shelf.called[(1, name)]]
    aheads = [ahead for ahead, _ in words_ahead(form, shelf.highest)]
    behinds = [behind for behind, _ in words_behind(form, shelf.highest)]
    untold = {}
    for place in range(many):
        ends = place == 0, place == many - 1
        if ends not in untold:
            # Nothing stands ahead of the first piece, and nothing behind the last one.
            firsts, lasts = [[]] if ends[0] else aheads, [[]] if ends[1] else behinds
            told = [shelf.told((1, name, (ahead, behind))) for ahead in firsts for behind in lasts]
            untold[ends] = any([first_place(span.rest(row)) is not None for row in told])
    return tuple([place for place in range(many) if untold[(place == 0, place == many - 1)]])


def turned_places(old, new, name, many):
    """The places of so many pieces that must hold what new needs so that a question of new is had."""
    check_old_and_new(old, new)
    check_new_name(new, name)
    if not is_within(many, 1, MOST_PIECES):
        raise BadNumber("many")
    return untold_places(old, new, name, many)


def is_had(old, new, name, marks):
    """Whether a question of new is had from pieces that hold what new needs, where a mark is True, or else old."""
    check_old_and_new(old, new)
    check_new_name(new, name)
    if not is_list(marks) or not 1 <= len(marks) <= MOST_PIECES:
        raise BadMarks("no list of 1 to 12 items")
    if not all([isinstance(mark, bool) for mark in marks]):
        raise BadMarks("a mark is neither True nor False")
    return all([marks[place] for place in untold_places(old, new, name, len(marks))])
