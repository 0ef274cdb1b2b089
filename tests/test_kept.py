"""Points 60 to 63: kept numbers, choices and bases, prices, relations, secrets."""

import copy
import random
import unittest
from itertools import combinations
from math import gcd

from stillknown.errors import BadBook, BadChoice, BadIndex, BadPrices, BadReading, BadReadings
from stillknown.kept import (
    are_twins, bases, cheaper_base, cheapest, given_away, is_told_by, least_choices, limit, rank, relations,
    safe_choices, told_by, twins,
)
from tests.books import FLAT, LASTS, NOTHING, RICH, TWO
from tests.plain import (
    ODD_VALUES, all_rows, check_any_values, plain_told, plain_told_of_mix, random_book, random_questions, random_reading,
    random_rows, rank_of,
)

EMPTY = ([], [])
A, B = ("a", EMPTY), ("b", EMPTY)
A_IN, A_OUT = ("a", ([("in", 4)], [])), ("a", ((), (("out", 1),)))
# In RICH a is the sum over all cuts of how many rows are ahead, times what is summed behind; b the sum.
OFFERED = [("b", EMPTY), ("a", EMPTY), ("a", ([], [("in", 1)])), ("b", ([("in", 5)], [])), ("a", ([("in", 0)], []))]


class Plain:
    """Readings by what they tell of many pieces."""

    def __init__(self, chance, book):
        self.book = book
        self.pieces = list(all_rows(book.kinds, (0, 1), 3)) + [random_rows(chance, book.kinds, 6, 5) for _ in range(30)]
        self.ones = [1] * len(self.pieces)

    def row(self, reading):
        return [plain_told(self.book, reading, piece) for piece in self.pieces]

    def hangs(self, wishes, rows):
        return rank_of([self.ones] + rows + wishes) == rank_of([self.ones] + rows)

    def enough(self, wishes, rows):
        """All choices of the rows, by length, on which each wish hangs."""
        choices = [choice for many in range(len(rows) + 1) for choice in combinations(range(len(rows)), many)]
        return [choice for choice in choices if self.hangs(wishes, [rows[at] for at in choice])]


def least_of(choices):
    """Those in which no other one lies."""
    return [choice for choice in choices if not any(set(other) < set(choice) for other in choices)]


def some_readings(chance, book, most):
    """A list of readings, often with one twice, one that never changes, and some that hang on others."""
    readings = [random_reading(chance, book, 2) for _ in range(chance.randint(0, most))]
    if readings and chance.random() < 0.4:
        readings.append(chance.choice(readings))
    return readings


class RankTest(unittest.TestCase):
    def test_known(self):
        for book, readings, found in [
                (TWO, [], 0), (TWO, [A], 1), (TWO, [A, A], 1), (TWO, [A, B], 2), (TWO, [A, A_IN, A_OUT], 1),
                (TWO, (A, B, A_IN, B, A), 2), (NOTHING, [A, B], 0), (FLAT, [A, B], 0), (RICH, OFFERED, 4),
                (RICH, OFFERED[:2], 2), (LASTS, [A, ("a", ([("in", 3)], [])), ("a", ([("in", 5)], []))], 2)]:
            self.assertEqual(rank(book, readings), found)
            self.assertEqual(rank(readings=readings, book=book), found)

    def test_ten_and_eleven(self):
        self.assertEqual(rank(TWO, [A, B] * 5), 2)
        self.assertEqual(told_by(TWO, [A] * 10, B), None)
        with self.assertRaises(BadReadings) as caught:
            rank(TWO, [A] * 11)
        self.assertIsNone(caught.exception.at)

    def test_against_plain_ranks(self):
        chance = random.Random(60)
        for _ in range(40):
            book = random_questions(chance, random_book(chance), 4)
            plain = Plain(chance, book)
            readings = some_readings(chance, book, 5)
            rows = [plain.row(reading) for reading in readings]
            self.assertEqual(rank(book, readings), rank_of([plain.ones] + rows) - 1)


class ToldByTest(unittest.TestCase):
    def test_known(self):
        self.assertEqual(told_by(TWO, [A], A_IN), (1, 4, 1))
        self.assertEqual(told_by(TWO, [A_IN, B], A_OUT), (1, -5, 1, 0))
        self.assertEqual(told_by(TWO, [], ("a", EMPTY)), None)
        self.assertIsNone(told_by(TWO, [A, A_IN], B))
        self.assertEqual(told_by(FLAT, [], B), (1, 1))
        self.assertEqual(told_by(wish=A, readings=[], book=NOTHING), (1, 0))
        self.assertIsNone(told_by(LASTS, [A], ("a", ([("in", 3)], []))))
        self.assertEqual(told_by(LASTS, [A, ("a", ([("in", 2)], []))], ("a", ([("in", 5)], [])))[0], 2)

    def test_random(self):
        chance = random.Random(61)
        both = set()
        for _ in range(50):
            book = random_questions(chance, random_book(chance), 4)
            plain = Plain(chance, book)
            readings = some_readings(chance, book, 4)
            wish = random_reading(chance, book, 2)
            rows, wished = [plain.row(reading) for reading in readings], plain.row(wish)
            found, mix = told_by(book, readings, wish), twins(book, readings, wish)
            before = copy.deepcopy((readings, wish))
            self.assertEqual(found, told_by(book, tuple(readings), wish))
            self.assertEqual(mix, twins(wish=wish, readings=readings, book=book))
            self.assertEqual((readings, wish), before)
            told = plain.hangs([wished], rows)
            both.add(told)
            self.assertEqual((found is not None, mix is None), (told, told))
            if told:
                over, *numbers = found
                self.assertGreaterEqual(over, 1)
                self.assertEqual(len(numbers), len(readings) + 1)
                for worth, *line in zip(wished, plain.ones, *rows):
                    self.assertEqual(over * worth, sum(x * y for x, y in zip(numbers, line)))
                self.assertTrue(is_told_by(book, readings, wish, found))
                at = chance.randrange(len(found))
                wrong = found[:at] + (found[at] + 1,) + found[at + 1:]
                same = all((over + (at == 0)) * worth == sum(x * y for x, y in zip(wrong[1:], line))
                           for worth, *line in zip(wished, plain.ones, *rows))
                self.assertIs(is_told_by(book, readings, wish, wrong), same)
            else:
                self.assertTrue(isinstance(mix, list) and all(isinstance(piece, list) for _, piece in mix))
                self.assertEqual(sum(coefficient for coefficient, _ in mix), 0)
                self.assertTrue(all(plain_told_of_mix(book, reading, mix) == 0 for reading in readings))
                self.assertNotEqual(plain_told_of_mix(book, wish, mix), 0)
                self.assertTrue(are_twins(book, readings, wish, mix))
        self.assertEqual(both, {True, False})

    def test_is_told_by(self):
        good = [(1, 4, 1), (2, 8, 2), (10 ** 40, 4 * 10 ** 40, 10 ** 40)]
        check_any_values(self, lambda value: is_told_by(TWO, [A], A_IN, value), good)
        for value in [(0, 0, 0), (-1, -4, -1), (1, 4), (1, 4, 1, 0), [1, 4, 1], (True, 4, 1), (1, 4, True), (1, 5, 1),
                      (2, 4, 1), (1, 4, None)]:
            self.assertIs(is_told_by(TWO, [A], A_IN, value), False, value)
        self.assertIs(is_told_by(thing=(3, 1, 1, 1), wish=A_IN, readings=[A, A_OUT], book=TWO), False)
        # 3 times A_IN is 12 and 3 times A: of A_OUT, one less than A, once, and twice A.
        self.assertIs(is_told_by(TWO, [A, A_OUT], A_IN, (3, 13, 2, 1)), True)
        self.assertIs(is_told_by(FLAT, [], B, (1, 1)), True)
        # For rows with the number 0 alone the sum would be told by nothing.
        self.assertIs(is_told_by(TWO, [], A, (1, 0)), False)
        self.assertIs(is_told_by(TWO, [B], A, (1, 0, 0)), False)

    def test_are_twins(self):
        one = [("in", 1)]
        good = [[(1, one), (-1, [])], ((1, one), (-1, ())), [(2, one), (-1, []), (-1, [("out", 7)])],
                [(1, one), (-1, []), (3, []), (-3, [])], [(5, [("in", 1), ("in", 2)]), (-5, one)]]
        check_any_values(self, lambda value: are_twins(TWO, [], B, value), good)
        wrong = [[(1, one)], [(2, one), (-1, [])], [(1, one), (-1, [("out", 3)])], [(1, one), (-1, one)], [(0, one), (1, [])],
                 [[1, one], [-1, []]], [(1, one), (-1, None)], [(True, one), (-1, [])], [(1, [("no", 1)]), (-1, [])],
                 {(1, ()): 1}, [(1, one), (-1, []), None]]
        for value in wrong:
            self.assertIs(are_twins(TWO, [], B, value), False, value)
        # What changes the sum by just as much is seen by the reading that is kept.
        self.assertIs(are_twins(TWO, [A], B, [(1, [("in", 3)]), (-1, [])]), False)
        self.assertIs(are_twins(TWO, [A], B, [(1, [("in", 3), ("out", 3)]), (-1, [])]), True)
        self.assertIs(are_twins(thing=[(1, [("in", 3), ("out", 3)]), (-1, [])], wish=B, readings=[A_IN], book=TWO), True)
        self.assertIsNone(twins(TWO, [A], A_OUT))
        self.assertIsNone(twins(NOTHING, [], A))

    def test_new_mix(self):
        kept = copy.deepcopy(twins(TWO, [A], B))
        mix = twins(TWO, [A], B)
        mix[0][1].append(1)
        mix.clear()
        self.assertEqual(twins(TWO, [A], B), kept)


class ChoiceTest(unittest.TestCase):
    def test_known(self):
        self.assertEqual(least_choices(TWO, [A, B, A_IN], [A]), [(0,), (2,)])
        self.assertEqual(least_choices(TWO, [A, B, A_IN], [A, B]), [(0, 1), (1, 2)])
        self.assertEqual(least_choices(TWO, [A, A_IN], [B]), [])
        self.assertEqual(least_choices(TWO, [], [A]), [])
        for wishes in ([], [A], [A, B]):
            self.assertEqual(least_choices(NOTHING, [A, B], wishes), [()])
        self.assertEqual(least_choices(FLAT, [A], [B]), [()])
        self.assertEqual(least_choices(TWO, [A], []), [()])
        self.assertEqual(least_choices(wishes=(B,), offered=(A, B, B), book=TWO), [(1,), (2,)])
        self.assertEqual(bases(TWO, [A, B, A_IN, B]), [(0, 1), (0, 3), (1, 2), (2, 3)])
        self.assertEqual(bases(TWO, []), [()])
        self.assertEqual(bases(NOTHING, [A, B]), [()])
        self.assertEqual(bases(offered=[A, A_IN], book=TWO), [(0,), (1,)])

    def test_ten_offered(self):
        many = [("a", ([("in", at)], [])) for at in range(5)] + [("b", ([("in", at)], [])) for at in range(5)]
        self.assertEqual(len(bases(TWO, many)), 25)
        self.assertEqual(len(least_choices(TWO, many, many)), 25)
        self.assertEqual(len(relations(TWO, many)), 20)
        self.assertEqual(safe_choices(TWO, many, [A]), [tuple(range(5, 10))])
        self.assertEqual(cheapest(TWO, many, [10 ** 6] * 10, many)[0], 2 * 10 ** 6)

    def test_against_all_choices(self):
        chance = random.Random(62)
        seen = {"none": 0, "cheaper": 0, "limit": 0, "never": 0, "any": 0}
        for _ in range(40):
            book = random_questions(chance, random_book(chance), 4)
            plain = Plain(chance, book)
            offered, wishes = some_readings(chance, book, 4), some_readings(chance, book, 2)[:2]
            if chance.random() < 0.5:
                wishes = [chance.choice(offered)] if offered else []
            prices = [chance.choice([0, 1, 2, 3, 10 ** 6]) for _ in offered]
            rows = [plain.row(reading) for reading in offered]
            least = least_of(plain.enough([plain.row(wish) for wish in wishes], rows))
            self.assertEqual(least_choices(book, offered, wishes), least)
            costs = [sum(prices[at] for at in choice) for choice in least]
            found = cheapest(book, offered, prices, wishes)
            if not least:
                seen["none"] += 1
                self.assertIsNone(found)
            else:
                self.assertEqual(found, (min(costs), [c for c, cost in zip(least, costs) if cost == min(costs)]))
            self.check_bases(book, plain, offered, rows, prices, seen)
        self.assertTrue(all(seen.values()), seen)

    def check_bases(self, book, plain, offered, rows, prices, seen):
        plain_bases = sorted(least_of(plain.enough(rows, rows)))
        self.assertEqual(bases(book, offered), plain_bases)

        def cost(choice, paid):
            return sum(paid[at] for at in choice)

        least = min(cost(base, prices) for base in plain_bases)
        for base in plain_bases:
            found = cheaper_base(book, offered, prices, base)
            if cost(base, prices) == least:
                self.assertIsNone(found)
                continue
            seen["cheaper"] += 1
            out, into = found
            self.assertTrue(out in base and into not in base and prices[into] < prices[out])
            self.assertIn(tuple(sorted([into] + [at for at in base if at != out])), plain_bases)
        for index in range(len(offered)):
            def stands(price):
                paid = prices[:index] + [price] + prices[index + 1:]
                cheap = min(cost(base, paid) for base in plain_bases)
                return any(index in base and cost(base, paid) == cheap for base in plain_bases)
            found = limit(book, offered, prices, index)
            if found is None:
                seen["any"] += 1
                self.assertTrue(stands(0) and stands(10 ** 7))
            elif found == -1:
                seen["never"] += 1
                self.assertFalse(stands(0))
            else:
                seen["limit"] += 1
                self.assertTrue(stands(found))
                self.assertFalse(stands(found + 1))

    def test_limit_is_told_by_relations(self):
        chance = random.Random(64)
        for _ in range(20):
            book = random_questions(chance, random_book(chance), 4)
            offered = some_readings(chance, book, 5)
            prices = [chance.randint(0, 9) for _ in offered]
            rings = [choice for choice, _ in relations(book, offered)]
            for index in range(len(offered)):
                tops = [max(prices[at] for at in ring if at != index)
                        for ring in rings if index in ring and len(ring) > 1]
                wanted = -1 if (index,) in rings else min(tops) if tops else None
                self.assertEqual(limit(book, offered, prices, index), wanted)

    def test_prices(self):
        offered = [A, B, A_IN]
        self.assertEqual(cheapest(TWO, offered, [3, 5, 2], [A, B]), (7, [(1, 2)]))
        self.assertEqual(cheapest(TWO, offered, (0, 10 ** 6, 0), [A, B]), (10 ** 6, [(0, 1), (1, 2)]))
        self.assertIsNone(cheapest(TWO, [A], [0], [B]))
        self.assertEqual(cheapest(NOTHING, [A], [7], [A]), (0, [()]))
        self.assertEqual(cheapest(wishes=[A], prices=[1, 1, 1], offered=offered, book=TWO), (1, [(0,), (2,)]))
        self.assertEqual(cheaper_base(TWO, offered, [3, 5, 2], (0, 1)), (0, 2))
        self.assertIsNone(cheaper_base(TWO, offered, [3, 5, 2], (1, 2)))
        self.assertIsNone(cheaper_base(TWO, offered, [2, 5, 2], (0, 1)))
        self.assertIsNone(cheaper_base(choice=(), prices=[], offered=[], book=TWO))
        self.assertEqual([limit(TWO, offered, [3, 5, 2], index) for index in range(3)], [2, None, 3])
        self.assertEqual(limit(index=0, prices=[9], offered=[A], book=NOTHING), -1)
        self.assertEqual(limit(TWO, [A, A], [9, 10 ** 6], 0), 10 ** 6)


class RelationTest(unittest.TestCase):
    def test_known(self):
        self.assertEqual(relations(TWO, [A, B, A_IN]), [((0, 2), (4, 1, -1))])
        self.assertEqual(relations(TWO, [A_IN, A]), [((0, 1), (-4, 1, -1))])
        self.assertEqual(relations(TWO, [A, B]), [])
        self.assertEqual(relations(TWO, []), [])
        self.assertEqual(relations(FLAT, [A, B]), [((0,), (0, 1)), ((1,), (-1, 1))])
        self.assertEqual(relations(offered=[A, A, A], book=TWO), [((0, 1), (0, 1, -1)), ((0, 2), (0, 1, -1)),
                                                                 ((1, 2), (0, 1, -1))])
        # Twice the answer hangs on the answer with the constant and the number over 2.
        lasts = [("a", ([("in", at)], [])) for at in (0, 2, 5)]
        self.assertEqual(relations(LASTS, lasts), [((0, 1, 2), (0, 3, -5, 2))])

    def test_random(self):
        chance = random.Random(63)
        many = 0
        for _ in range(30):
            book = random_questions(chance, random_book(chance), 4)
            plain = Plain(chance, book)
            offered = some_readings(chance, book, 5)
            rows = [plain.row(reading) for reading in offered]
            found = relations(book, offered)
            choices = [choice for size in range(1, len(rows) + 1) for choice in combinations(range(len(rows)), size)]
            loose = [choice for choice in choices
                     if rank_of([plain.ones] + [rows[at] for at in choice]) <= len(choice)]
            self.assertEqual([choice for choice, _ in found], least_of(loose))
            for choice, numbers in found:
                many += len(choice) > 1
                self.assertEqual(len(numbers), len(choice) + 1)
                self.assertTrue(numbers[1] >= 1 and all(numbers[1:]))
                self.assertEqual(gcd(*numbers), 1)
                for line in zip(plain.ones, *[rows[at] for at in choice]):
                    self.assertEqual(sum(x * y for x, y in zip(numbers, line)), 0)
        self.assertGreater(many, 5)


class SecretTest(unittest.TestCase):
    def test_known(self):
        self.assertEqual(safe_choices(TWO, [A, B, A_IN], [A]), [(1,)])
        self.assertEqual(safe_choices(TWO, [A, B, A_IN], [B]), [(0, 2)])
        self.assertEqual(safe_choices(TWO, [A, B, A_IN], [A, B]), [()])
        self.assertEqual(safe_choices(TWO, [A, B, A_IN], []), [(0, 1, 2)])
        self.assertEqual(safe_choices(TWO, [], [A]), [()])
        self.assertEqual(safe_choices(NOTHING, [A], [B]), [])
        self.assertEqual(safe_choices(secrets=[B], offered=[A], book=FLAT), [])
        self.assertEqual(given_away(TWO, [A, B, A_IN], (0,), [B, A_OUT, A]), (1, 2))
        self.assertEqual(given_away(TWO, [A, B, A_IN], (), [B, A]), ())
        self.assertEqual(given_away(FLAT, [], (), [B, A]), (0, 1))
        self.assertEqual(given_away(secrets=[B], choice=(0, 1, 2), offered=[A, B, A_IN], book=TWO), (0,))
        lasts = [("a", ([("in", at)], [])) for at in (0, 2, 5)]
        self.assertEqual(safe_choices(LASTS, lasts, [("a", ([("in", 9)], []))]), [(0,), (1,), (2,)])

    def test_against_all_choices(self):
        chance = random.Random(65)
        for _ in range(30):
            book = random_questions(chance, random_book(chance), 4)
            plain = Plain(chance, book)
            offered, secrets = some_readings(chance, book, 4), some_readings(chance, book, 2)[:2]
            rows, hidden = [plain.row(reading) for reading in offered], [plain.row(secret) for secret in secrets]
            choices = [choice for many in range(len(rows) + 1) for choice in combinations(range(len(rows)), many)]
            told = {choice: tuple(at for at, row in enumerate(hidden) if plain.hangs([row], [rows[i] for i in choice]))
                    for choice in choices}
            safe = [choice for choice in choices if not told[choice]]
            greatest = [choice for choice in safe if not any(set(choice) < set(other) for other in safe)]
            self.assertEqual(safe_choices(book, offered, secrets), sorted(greatest, key=lambda c: (-len(c), c)))
            for choice in choices:
                self.assertEqual(given_away(book, offered, choice, secrets), told[choice])


class ErrorTest(unittest.TestCase):
    def raises(self, error, work, at="none"):
        with self.assertRaises(error) as caught:
            work()
        if at != "none":
            self.assertEqual(caught.exception.at, at)

    def calls(self, book, readings, rest=None):
        """All functions, each with the readings as its first list, and something wrong behind it."""
        return [lambda: rank(book, readings), lambda: told_by(book, readings, rest),
                lambda: is_told_by(book, readings, rest, None), lambda: twins(book, readings, rest),
                lambda: are_twins(book, readings, rest, None), lambda: least_choices(book, readings, rest),
                lambda: cheapest(book, readings, rest, rest), lambda: bases(book, readings),
                lambda: cheaper_base(book, readings, rest, rest), lambda: limit(book, readings, rest, rest),
                lambda: relations(book, readings), lambda: safe_choices(book, readings, rest),
                lambda: given_away(book, readings, rest, rest)]

    def test_books_and_readings(self):
        for value in ODD_VALUES:
            for work in self.calls(value, None):
                with self.assertRaises(BadBook) as caught:
                    work()
                self.assertIsNone(caught.exception.part)
            if not isinstance(value, (list, tuple)):
                for work in self.calls(TWO, value):
                    self.raises(BadReadings, work, None)
            for work in self.calls(TWO, [A, value, None]):
                self.raises(BadReadings, work, 1)
        for value in (("c", EMPTY), ["a", EMPTY], ("a", [[], []]), ("a", ([("in", True)], [])), ("a", EMPTY, 1), ("a",)):
            for work in self.calls(TWO, [value]):
                self.raises(BadReadings, work, 0)
        for work in self.calls(TWO, [A] * 11) + self.calls(TWO, [None] * 11):
            self.raises(BadReadings, work, None)

    def test_wishes_and_secrets(self):
        for asked in (lambda wishes: least_choices(TWO, [A], wishes), lambda wishes: cheapest(TWO, [A], None, wishes),
                      lambda wishes: safe_choices(TWO, [A], wishes), lambda wishes: given_away(TWO, [A], (0,), wishes)):
            for value in ODD_VALUES:
                if not isinstance(value, (list, tuple)):
                    self.raises(BadReadings, lambda: asked(value), None)
                self.raises(BadReadings, lambda: asked([A, A, value]), 2)
            self.raises(BadReadings, lambda: asked([A] * 11), None)
        for value in [*ODD_VALUES, ("c", EMPTY), ["a", EMPTY], ("a", [[], []]), ("a", ([("in", True)], []))]:
            for asked in (told_by, twins, lambda *told: is_told_by(*told, (1, 1)), lambda *told: are_twins(*told, [])):
                self.raises(BadReading, lambda: asked(TWO, [], value))

    def test_prices_choices_indexes(self):
        for value in [*ODD_VALUES, [1], [1, 2, 3], [1, -1], [1, 10 ** 6 + 1], [1, True], [None, 1], {0: 1, 1: 1}]:
            self.raises(BadPrices, lambda: cheapest(TWO, [A, B], value, []))
            self.raises(BadPrices, lambda: cheaper_base(TWO, [A, B], value, None))
            self.raises(BadPrices, lambda: limit(TWO, [A, B], value, None))
        for value in [*ODD_VALUES, (0,), (1,), (1, 0), (0, 1, 2), [0, 1], (0, 0), (0, True), (0, 2), (0, 3)]:
            self.raises(BadChoice, lambda: cheaper_base(TWO, [A, B, A_IN], [1, 1, 1], value))
        for value in [*ODD_VALUES, (1, 0), [0, 1], (0, 0), (0, True), (0, 3), (-1, 0)]:
            if value != ():
                self.raises(BadChoice, lambda: given_away(TWO, [A, B, A_IN], value, None))
        for value in [*ODD_VALUES, 2, -2, "0"]:
            if value != 0 or value is False:
                self.raises(BadIndex, lambda: limit(TWO, [A, B], [1, 1], value))
        self.raises(BadIndex, lambda: limit(TWO, [], [], 0))

    def test_new_results(self):
        for asked in (lambda: least_choices(TWO, [A, B], [A]), lambda: cheapest(TWO, [A, B], [1, 1], [A])[1],
                      lambda: bases(TWO, [A, B]), lambda: relations(TWO, [A, A]), lambda: safe_choices(TWO, [A, B], [A])):
            kept = copy.deepcopy(asked())
            asked().append(1)
            self.assertEqual(asked(), kept)


if __name__ == "__main__":
    unittest.main()
