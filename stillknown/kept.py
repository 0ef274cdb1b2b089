"""Kept numbers: enough, cheapest, needless, given away."""

from stillknown.asked import check_book, check_reading, check_readings
from stillknown.choices import (
    all_bases, all_rings, all_safe, chosen, hanging_indexes, is_base, is_choice, least_enough, moving, price_limit,
)
from stillknown.errors import BadChoice, BadIndex, BadPrices
from stillknown.hanging import column_apart, hung_on
from stillknown.ownforms import are_numbers
from stillknown.pieces import degree_of_book, forms_of, seen_by, spanning_pieces, told_of, total_blocks, value_at
from stillknown.tables import dot, free_indexes
from stillknown.values import is_list, is_mix, is_within

MOST_READINGS = 10
HIGHEST_PRICE = 1000000


def check_offered(book, readings):
    """Refuse what is no book, and what is no list of 0 to 10 readings of it."""
    check_book(book)
    check_readings(book, readings, MOST_READINGS)


def check_prices(offered, prices):
    """Refuse what is no list of prices, one for each offered reading."""
    if not is_list(prices) or len(prices) != len(offered):
        raise BadPrices("not as many prices as readings")
    if not all([is_within(price, 0, HIGHEST_PRICE) for price in prices]):
        raise BadPrices("a price is no number from 0 to 1000000")


def spanning_of(book):
    """The forms of a book, and pieces that span."""
    forms = forms_of(book)
    return forms, spanning_pieces(forms, degree_of_book(book))


def rows_of(ground, readings):
    """What each reading tells of the spanning pieces."""
    forms, pieces = ground
    return [told_of(forms[name], name, surrounding, pieces) for name, surrounding in readings]


def moving_rows(book, readings):
    """What each reading tells of the spanning pieces, less what it tells of the first one."""
    return moving(rows_of(spanning_of(book), readings))


def with_constant(rows, width):
    """The rows with one of ones ahead."""
    return [[1] * width] + rows


def rank(book, readings):
    """The fewest of the readings on which all of them hang straight."""
    check_offered(book, readings)
    return len(free_indexes(moving_rows(book, readings)))


def told_by(book, readings, wish):
    """How a wish hangs straight on the readings; None if it does not."""
    check_offered(book, readings)
    check_reading(book, wish)
    ground = spanning_of(book)
    found = hung_on(with_constant(rows_of(ground, readings), len(ground[1])), rows_of(ground, [wish])[0])
    return None if found is None else (found[0],) + found[1]


def is_told_by(book, readings, wish, thing):
    """Whether any value tells how a wish hangs straight on the readings."""
    check_offered(book, readings)
    check_reading(book, wish)
    if not are_numbers(thing, len(readings) + 2) or thing[0] < 1:
        return False
    ground = spanning_of(book)
    rows = with_constant(rows_of(ground, readings), len(ground[1]))
    wished = rows_of(ground, [wish])[0]
    return all([thing[0] * told == dot(thing[1:], column) for told, column in zip(wished, zip(*rows))])


def twins(book, readings, wish):
    """A mix without a sum at which all readings tell 0 and the wish does not; None if there is none."""
    check_offered(book, readings)
    check_reading(book, wish)
    ground = spanning_of(book)
    rows = with_constant(rows_of(ground, readings), len(ground[1]))
    column = column_apart(rows, rows_of(ground, [wish])[0])
    if column is None:
        return None
    return [(number, list(piece)) for number, (piece, _) in zip(column, ground[1]) if number != 0]


def are_twins(book, readings, wish, thing):
    """Whether any value is a mix without a sum at which all readings tell 0 and the wish does not."""
    check_offered(book, readings)
    check_reading(book, wish)
    if not is_mix(book.kinds, thing):
        return False
    forms = forms_of(book)
    count, blocks = total_blocks(forms, thing)
    told = [value_at(seen_by(forms[name], where), blocks[name]) for name, where in list(readings) + [wish]]
    return count == 0 and told[-1] != 0 and not any([number != 0 for number in told[:-1]])


def least_choices(book, offered, wishes):
    """All least choices that are enough for the wishes, by length, then ascending."""
    check_offered(book, offered)
    check_readings(book, wishes, MOST_READINGS)
    rows = moving_rows(book, list(offered) + list(wishes))
    return least_enough(rows[:len(offered)], rows[len(offered):])


def cheapest(book, offered, prices, wishes):
    """The least cost of a least choice, and the least choices with this cost; None if there is no least choice."""
    check_offered(book, offered)
    check_readings(book, wishes, MOST_READINGS)
    check_prices(offered, prices)
    found = least_choices(book, offered, wishes)
    if len(found) == 0:
        return None
    costs = [sum(chosen(prices, choice)) for choice in found]
    return min(costs), [choice for choice, cost in zip(found, costs) if cost == min(costs)]


def bases(book, offered):
    """All bases, ascending."""
    check_offered(book, offered)
    return all_bases(moving_rows(book, offered))


def cheaper_base(book, offered, prices, choice):
    """An exchange of one reading that makes a base cheaper; None if there is none."""
    check_offered(book, offered)
    check_prices(offered, prices)
    rows = moving_rows(book, offered)
    if not is_choice(len(offered), choice) or not is_base(rows, choice):
        raise BadChoice("no base")
    for out in choice:
        for into in range(len(offered)):
            if into not in choice and prices[into] < prices[out]:
                if is_base(rows, [into] + [at for at in choice if at != out]):
                    return out, into
    return None


def limit(book, offered, prices, index):
    """The greatest price with which a reading would stand in some cheapest base; None for any, -1 for none."""
    check_offered(book, offered)
    check_prices(offered, prices)
    if not is_within(index, 0, len(offered) - 1):
        raise BadIndex("no index of an offered reading")
    return price_limit(moving_rows(book, offered), prices, index)


def relations(book, offered):
    """All relations between the offered readings, by the length of their choices, then ascending."""
    check_offered(book, offered)
    ground = spanning_of(book)
    rows = rows_of(ground, offered)
    found = []
    for choice in all_rings(moving(rows)):
        first, *others = chosen(rows, choice)
        over, numbers = hung_on(with_constant(others, len(first)), first)
        found.append((choice, (-numbers[0], over) + tuple([-number for number in numbers[1:]])))
    return found


def safe_choices(book, offered, secrets):
    """The choices that give no secret away and lie in no greater one that does so; the longest first."""
    check_offered(book, offered)
    check_readings(book, secrets, MOST_READINGS)
    rows = moving_rows(book, list(offered) + list(secrets))
    return all_safe(rows[:len(offered)], rows[len(offered):])


def given_away(book, offered, choice, secrets):
    """The indexes of the secrets that a choice gives away."""
    check_offered(book, offered)
    if not is_choice(len(offered), choice):
        raise BadChoice("no choice of offered readings")
    check_readings(book, secrets, MOST_READINGS)
    rows = moving_rows(book, list(offered) + list(secrets))
    return hanging_indexes(chosen(rows, choice), rows[len(offered):])
