"""What has the form of a hand-over: readings, joins, answers, over."""

from stillknown.ownforms import are_numbers, is_table
from stillknown.values import is_list, is_name, is_number, is_tuple_of


def is_any_row_list(value):
    """Whether a value is a row list of whatever kinds."""
    if not is_list(value):
        return False
    return all([is_tuple_of(row, 2) and is_name(row[0]) and is_number(row[1]) for row in value])


def is_any_reading(value):
    """Whether a value is a reading of whatever book."""
    if not is_tuple_of(value, 2) or not is_name(value[0]) or not is_tuple_of(value[1], 2):
        return False
    return is_any_row_list(value[1][0]) and is_any_row_list(value[1][1])


def is_paper(value):
    """Whether a value has the form of a hand-over of any number of readings."""
    if not is_tuple_of(value, 4):
        return False
    readings, joins, answers, over = value
    if not isinstance(readings, tuple) or not all([is_any_reading(reading) for reading in readings]):
        return False
    size = len(readings) + 1
    if not is_tuple_of(joins, len(readings)) or not all([is_table(table, size) for table in joins]):
        return False
    if not isinstance(answers, tuple) or not 1 <= len(answers) <= 4:
        return False
    return all([are_numbers(shares, size) for shares in answers]) and is_number(over) and over >= 1
