"""What numbers, names, lists and row lists are, for any value that is judged."""

from stillknown.errors import BadRows

LETTERS = "abcdefghijklmnopqrstuvwxyz"


def is_number(value):
    """Whether a value is a number; True and False are none."""
    return isinstance(value, int) and not isinstance(value, bool)


def is_within(value, least, greatest):
    """Whether a value is a number from least to greatest."""
    return is_number(value) and least <= value <= greatest


def is_name(value):
    """Whether a value is a name."""
    if not isinstance(value, str) or not 1 <= len(value) <= 6 or value == "t":
        return False
    return all([letter in LETTERS for letter in value])


def is_list(value):
    """Whether a value stands for a list; a tuple does, too."""
    return isinstance(value, (list, tuple))


def is_tuple_of(value, many):
    """Whether a value is a tuple of so many items."""
    return isinstance(value, tuple) and len(value) == many


def is_dict_of_names(value, fewest, most):
    """Whether a value is a dict whose keys are from fewest to most names."""
    if not isinstance(value, dict) or not fewest <= len(value) <= most:
        return False
    return all([is_name(key) for key in value])


def is_key_of(value, names):
    """Whether a value is one of some names, the keys of a dict or the items of a tuple."""
    # Only strings are looked up: other values may not be looked up in a dict at all.
    return isinstance(value, str) and value in names


def is_row(kinds, value):
    """Whether a value is a row of one of the kinds."""
    return is_tuple_of(value, 2) and is_key_of(value[0], kinds) and is_number(value[1])


def is_row_list(kinds, value):
    """Whether a value is a row list of the kinds."""
    return is_list(value) and all([is_row(kinds, row) for row in value])


def checked_rows(kinds, rows):
    """The rows as a list of their own, if they are a row list of the kinds."""
    if not is_list(rows):
        raise BadRows(None)
    for at, row in enumerate(rows):
        if not is_row(kinds, row):
            raise BadRows(at)
    return list(rows)


def is_surrounding(kinds, value):
    """Whether a value is a pair of row lists of the kinds."""
    return is_tuple_of(value, 2) and is_row_list(kinds, value[0]) and is_row_list(kinds, value[1])


def is_pair_of_number(value):
    """Whether a value is a pair of a number other than 0 and something."""
    return is_tuple_of(value, 2) and is_number(value[0]) and value[0] != 0


def is_mix(kinds, value):
    """Whether a value is a list of one or more pairs of a coefficient and a row list of the kinds."""
    if not is_list(value) or len(value) == 0:
        return False
    return all([is_pair_of_number(pair) and is_row_list(kinds, pair[1]) for pair in value])
