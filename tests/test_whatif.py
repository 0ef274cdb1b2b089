"""Points 110 to 112: answers as polynomials, numbers that lead to a goal, what acts together."""

import copy
import random
import unittest
from itertools import product

from stillknown.books import Book
from stillknown.errors import (
    BadBook, BadKind, BadNumber, BadNumbers, BadPlaces, BadPolynomial, BadRows, BadTold, NoPlace, NoQuestion,
)
from stillknown.loops import Loop
from stillknown.patterns import Pattern
from stillknown.whatif import (
    degree_in, degree_shown, extremes, is_together_shown, numbers_for, repairs, together_shown, what_if, worth,
)
from tests.books import FLAT, KINDS, LOOPS, NOTHING, PATTERNS, RICH, SUM, TWO, same_loop
from tests.graphs import plain_of
from tests.plain import ODD_VALUES, all_rows, check_any_values, random_book, random_questions, random_rows

HUGE = 10 ** 29


def book_of(**questions):
    """A book with the common loops."""
    return Book(LOOPS, PATTERNS, questions)


def with_number(rows, place, number):
    """The rows with another number at a place."""
    return [(kind, number if at == place else own) for at, (kind, own) in enumerate(rows)]


def plain_worth(polynomial, numbers):
    """The worth of a polynomial, by the words of point 110."""
    total = 0
    for powers, coefficient in polynomial.items():
        for number, power in zip(numbers, powers):
            for _ in range(power):
                coefficient *= number
        total += coefficient
    return total


def some_questions(seed, many, powers=(0, 1, 2)):
    """Books, names and row lists made at random."""
    chance = random.Random(seed)
    for _ in range(many):
        kinds = chance.choice([("in",), KINDS])
        book = random_questions(chance, random_book(chance, kinds, powers), 6, 4)
        yield chance, book, chance.choice(book.names), random_rows(chance, kinds, 5) or [("in", 1)]


BETWEEN = Book({"x": same_loop({"x": 0}, {"x": (("", 1, -3), ("", 2, 1), ("x", 0, 1))}, (("x", 0, 1),)), "n": SUM}, {},
               {"a": ("both", "n", "n"), "b": "x"})


class WhatIfTest(unittest.TestCase):
    def test_known(self):
        rows = [("in", 3), ("out", 5), ("in", 2)]
        self.assertEqual(what_if(RICH, "b", rows, [0]), {(0,): -3, (1,): 1})
        self.assertEqual(what_if(RICH, "b", rows, [2, 1]), {(0, 0): 3, (0, 1): -1, (1, 0): 1})
        self.assertEqual(what_if(places=(1, 0, 2), rows=tuple(rows), name="b", book=RICH),
                         {(0, 0, 1): 1, (0, 1, 0): 1, (1, 0, 0): -1})
        self.assertEqual(what_if(NOTHING, "a", [("in", 1)], [0]), {})
        self.assertEqual(what_if(TWO, "b", [("in", 1)], [0]), {(0,): 1})
        self.assertEqual(what_if(book_of(a="square"), "a", [("in", 9), ("out", 2)], [1]), {(0,): 81, (2,): 1})

    def test_against_answers(self):
        sizes = set()
        for chance, book, name, rows in some_questions(110, 120):
            places = chance.sample(range(len(rows)), chance.randint(1, min(3, len(rows))))
            passed = copy.deepcopy((rows, places))
            found = what_if(book, name, rows, places)
            self.assertEqual((rows, places), passed)
            self.assertEqual(found, what_if(book, name, rows, places))
            self.assertEqual(list(found), sorted(found))
            sizes.add((len(places), min(len(found), 3)))
            for powers, coefficient in found.items():
                self.assertEqual(len(powers), len(places))
                self.assertNotEqual(coefficient, 0)
                self.assertTrue(all(0 <= power <= book.degree(name) for power in powers))
            for _ in range(8):
                numbers = tuple(chance.choice([0, 1, -1, 2, 5, -7, HUGE]) for _ in places)
                other = rows
                for place, number in zip(places, numbers):
                    other = with_number(other, place, number)
                self.assertEqual(plain_worth(found, numbers), plain_of(book, name, other))
                self.assertEqual(worth(found, numbers), plain_worth(found, numbers))
        self.assertTrue({(k, m) for k in (1, 2, 3) for m in (1, 3)} - {(1, 3)} <= sizes)

    def test_worth(self):
        self.assertEqual(worth({(2, 0): 3, (0, 1): -1}, (5, 7)), 68)
        self.assertEqual(worth(numbers=(0,), polynomial={(0,): 4, (3,): 9}), 4)
        self.assertEqual(worth({(20, 20, 20): 1}, (10, -1, 2)), 10 ** 20 * 2 ** 20)
        for numbers in ((1,), (1, 2), (1, 2, 3)):
            self.assertEqual(worth({}, numbers), 0)
        for value in (*ODD_VALUES, {(): 1}, {(1,): 0}, {(1,): True}, {(1,): None}, {(-1,): 1}, {(True,): 1}, {1: 1},
                      {(1,): 1, (1, 2): 1}, {(0, 0, 0, 0): 1}, {"a": 1}, {(None,): 1}, [((1,), 1)], {((1,),): 1}):
            if value in ({}, {(1, 2): 3}):
                continue
            with self.assertRaises(BadPolynomial):
                worth(value, None)
        for value in (*ODD_VALUES, (1, 2), (), [1], (True,), (None,), (1, 2, 3)):
            with self.assertRaises(BadNumbers):
                worth({(1,): 1}, value)
        for value in (*ODD_VALUES, (1, 2, 3, 4), (), [1], (1, None)):
            with self.assertRaises(BadNumbers):
                worth({}, value)

    def test_errors(self):
        rows = [("in", 1), ("out", 2), ("in", 3), ("in", 4)]
        calls = {
            what_if: [None], numbers_for: [None, None], extremes: [None],
        }
        for call, more in calls.items():
            for value in ODD_VALUES:
                with self.assertRaises(BadBook) as caught:
                    call(value, None, None, *more)
                self.assertIsNone(caught.exception.part)
                if value != "a":
                    with self.assertRaises(NoQuestion) as caught:
                        call(TWO, value, None, *more)
                    self.assertIs(caught.exception.name, value)
            for value, at in [(None, None), ("in", None), ({}, None), ([("in", 1), ("up", 1)], 1), ([("in", True)], 0),
                              ([("in", 1), ["in", 1]], 1), ([None], 0)]:
                with self.assertRaises(BadRows) as caught:
                    call(TWO, "a", value, *more)
                self.assertEqual(caught.exception.at, at)
        for value, at in [(None, None), ([], None), ((), None), ([0, 1, 2, 3], None), ({0: 1}, None), ("0", None),
                          ([4], 0), ([-1], 0), ([0, 0], 1), ([0, True], 1), ([False], 0), ([0, 1, 0], 2), ([0, "1"], 1),
                          ([[0]], 0), ([1, None, 9], 1), (0, None)]:
            with self.assertRaises(BadPlaces) as caught:
                what_if(TWO, "a", rows, value)
            self.assertEqual(caught.exception.at, at)
        for value in (*ODD_VALUES, 4, -1):
            if isinstance(value, int) and not isinstance(value, bool) and 0 <= value < 4:
                continue
            for call, more in [(numbers_for, [None]), (extremes, [])]:
                with self.assertRaises(NoPlace) as caught:
                    call(TWO, "a", rows, value, *more)
                self.assertIs(caught.exception.at, value)
        for value in ODD_VALUES:
            if not isinstance(value, int) or isinstance(value, bool):
                with self.assertRaises(BadNumber) as caught:
                    numbers_for(TWO, "a", rows, 0, value)
                self.assertEqual(caught.exception.part, "goal")
        with self.assertRaises(NoPlace):
            extremes(TWO, "a", [], 0)


class OneNumberTest(unittest.TestCase):
    def test_known(self):
        rows = [("in", 3), ("out", 5)]
        square = book_of(a=("both", "sum", "sum"))
        self.assertEqual(numbers_for(square, "a", rows, 0, 36), (-1, 11))
        self.assertEqual(numbers_for(square, "a", rows, 0, 35), ())
        self.assertEqual(numbers_for(goal=0, place=1, rows=rows, name="a", book=square), (3,))
        self.assertIsNone(numbers_for(TWO, "b", rows, 0, 2))
        self.assertEqual(numbers_for(TWO, "b", rows, 0, 3), ())
        self.assertEqual(extremes(square, "a", rows, 0), ((0, (5,)), None))
        self.assertEqual(extremes(TWO, "a", rows, 0), (None, None))
        self.assertEqual(extremes(place=0, rows=rows, name="b", book=TWO), ((2, None), (2, None)))
        down = book_of(a=("times", -3, "square"))
        self.assertEqual(extremes(down, "a", [("in", 9), ("in", 1)], 0), (None, (-3, (0,))))
        # The turn lies between two numbers: both lead to the least answer.
        self.assertEqual(extremes(BETWEEN, "b", [("in", 7)], 0), ((-2, (1, 2)), None))
        self.assertEqual(numbers_for(square, "a", [("in", HUGE)], 0, HUGE * HUGE), (-HUGE, HUGE))

    def test_against_answers(self):
        seen = set()
        for chance, book, name, rows in some_questions(111, 110):
            place = chance.randrange(len(rows))
            answers = {number: plain_of(book, name, with_number(rows, place, number)) for number in range(-40, 41)}
            for goal in [answers[chance.randint(-5, 5)], answers[0], answers[1] + 1, 0]:
                found = numbers_for(book, name, rows, place, goal)
                there = tuple(number for number in answers if answers[number] == goal)
                self.assertEqual(tuple(answers) if found is None else
                                 tuple(number for number in found if -40 <= number <= 40), there)
                for number in found or ():
                    self.assertEqual(plain_of(book, name, with_number(rows, place, number)), goal)
            least, greatest = extremes(book, name, rows, place)
            seen.add((least is None, greatest is None))
            self.check_extreme(book, name, rows, place, answers, least, 1)
            self.check_extreme(book, name, rows, place, answers, greatest, -1)
        self.assertEqual(len(seen), 4)

    def check_extreme(self, book, name, rows, place, answers, found, sign):
        far = [sign * plain_of(book, name, with_number(rows, place, number)) for number in (-10 ** 9, 10 ** 9)]
        if found is None:
            self.assertLess(min(far), min(sign * answer for answer in answers.values()))
            return
        answer, numbers = found
        self.assertLessEqual(sign * answer, min(far))
        self.assertTrue(all(sign * answer <= sign * other for other in answers.values()))
        if numbers is None:
            self.assertEqual(set(answers.values()), {answer})
            return
        self.assertEqual(tuple(sorted(set(numbers))), numbers)
        self.assertGreater(len(numbers), 0)
        for number in [*answers, *numbers]:
            self.assertEqual(plain_of(book, name, with_number(rows, place, number)) == answer, number in numbers)

    def test_even_powers(self):
        # Four ways up and down: x to the power 4 and less, the least answer at two numbers.
        hill = Loop({"x": 0}, {"in": {"x": (("", 0, -5), ("", 2, 1))}}, (("x", 0, 1),))
        book = Book({"h": hill}, {}, {"a": ("both", "h", "h"), "b": ("times", -1, "h")})
        self.assertEqual(extremes(book, "a", [("in", 1)], 0), ((1, (-2, 2)), None))
        self.assertEqual(extremes(book, "b", [("in", 1)], 0), (None, (5, (0,))))
        self.assertEqual(numbers_for(book, "a", [("in", 1)], 0, 16), (-3, -1, 1, 3))

    def test_repairs(self):
        rows = [("in", 3), ("out", 5)]
        self.assertEqual(repairs(TWO, rows, {"a": 1, "b": 2}), [(0, 6), (1, 2)])
        self.assertEqual(repairs(TWO, rows, {"a": -2, "b": 2}), [])
        self.assertEqual(repairs(TWO, rows, {"a": -2, "b": 3}), [])
        self.assertEqual(repairs(TWO, [], {"a": 0, "b": 0}), [])
        self.assertEqual(repairs(told={"b": 1, "a": 0}, rows=rows, book=FLAT), [(0, None), (1, None)])
        last = book_of(a="last")
        self.assertEqual(repairs(last, [("in", 3), ("out", 5), ("in", 7)], {"a": 7}), [(0, None), (1, None)])
        self.assertEqual(repairs(last, [("in", 3), ("out", 5), ("in", 7)], {"a": 8}), [(2, 8)])
        self.assertEqual(repairs(book_of(a=("both", "sum", "sum")), [("in", 3)], {"a": 9}), [(0, -3)])

    def test_repairs_against_answers(self):
        kinds_seen = set()
        for chance, book, _, rows in some_questions(1110, 70):
            place = chance.randrange(len(rows))
            changed = with_number(rows, place, chance.randint(-6, 6))
            told = {name: plain_of(book, name, rows) + (chance.random() < 0.1) for name in book.names}
            passed = copy.deepcopy((changed, told))
            found = repairs(book, changed, told)
            self.assertEqual((changed, told), passed)
            self.assertEqual(found, repairs(book, tuple(changed), dict(reversed(list(told.items())))))
            there = []
            for at, (_, own) in enumerate(changed):
                good = [number for number in range(-25, 26) if number != own and all(
                    plain_of(book, name, with_number(changed, at, number)) == told[name] for name in told)]
                there += [(at, None)] if len(good) == 50 else [(at, number) for number in good]
            self.assertEqual([pair for pair in found if pair[1] is None or -25 <= pair[1] <= 25], there)
            kinds_seen |= {pair[1] is None for pair in found} | ({"none"} if not found else set())
            fits = all(told[name] == plain_of(book, name, rows) for name in told)
            if fits and changed != rows:
                self.assertTrue((place, rows[place][1]) in found or (place, None) in found)
        self.assertEqual(len(kinds_seen), 3)

    def test_repairs_errors(self):
        for value in ODD_VALUES:
            with self.assertRaises(BadBook):
                repairs(value, None, None)
            if not isinstance(value, (list, tuple)) or value:
                with self.assertRaises(BadRows):
                    repairs(TWO, value, None)
        for value in (*ODD_VALUES, {"a": 1}, {"a": 1, "b": 1, "c": 1}, {"a": 1, "c": 1}, [("a", 1), ("b", 2)]):
            with self.assertRaises(BadTold) as caught:
                repairs(TWO, [], value)
            self.assertIsNone(caught.exception.name)
        for told, name in [({"b": None, "a": True}, "a"), ({"a": 1, "b": True}, "b"), ({"b": "1", "a": 1}, "b"),
                           ({"b": [], "a": {}}, "a")]:
            with self.assertRaises(BadTold) as caught:
                repairs(TWO, [("in", 1)], told)
            self.assertEqual(caught.exception.name, name)


def mixed_change(book, name, one, other, lists, x, y):
    """How a change of two numbers together is more than the sum of both changes."""
    ahead, between, behind = lists

    def at(first, second):
        return plain_of(book, name, [*ahead, (one, first), *between, (other, second), *behind])

    return at(x, y) - at(0, y) - at(x, 0) + at(0, 0)


class ForAllRowsTest(unittest.TestCase):
    def test_degrees_known(self):
        self.assertEqual(degree_in(TWO, "a", "in"), 1)
        self.assertEqual(degree_in(TWO, "b", "in"), 0)
        self.assertIsNone(degree_shown(TWO, "b", "in"))
        self.assertEqual(degree_in(book_of(a="square"), "a", "out"), 2)
        self.assertEqual(degree_in(kind="out", name="a", book=book_of(a="last")), 0)
        self.assertEqual(degree_shown(kind="in", name="a", book=book_of(a="last")), ([], []))
        # A number that is taken away again, and one that only matters behind other rows.
        gone = ("plus", "sum", ("times", -1, "sum"))
        self.assertEqual(degree_in(book_of(a=gone), "a", "in"), 0)
        late = Loop({"x": 0, "y": 0}, {"in": {"x": (("", 0, 1),), "y": (("x", 2, 1), ("y", 0, 1))}}, (("y", 0, 1),))
        book = Book({"l": late}, {}, {"a": "l", "b": "l"})
        self.assertEqual(degree_in(book, "a", "in"), 2)
        ahead, behind = degree_shown(book, "a", "in")
        self.assertEqual((len(ahead), behind), (1, []))
        # Two unlike rows, in one order only, must come behind, or ahead.
        start = {"x": 0, "y": 0, "z": 0}
        kept = {name: ((name, 0, 1),) for name in start}
        steps = {"in": {**kept, "x": (("", 1, 1),)}, "mid": {**kept, "y": (("x", 0, 1),), "x": ()},
                 "out": {**kept, "z": (("y", 0, 1),)}}
        lasting = Book({"l": Loop(start, steps, (("z", 0, 1),))}, {}, {"a": "l", "b": ("turned", "l")})
        self.assertEqual(degree_shown(lasting, "a", "in"), ([], [("mid", 0), ("out", 0)]))
        self.assertEqual(degree_shown(lasting, "b", "in"), ([("out", 0), ("mid", 0)], []))

    def test_degrees_against_plain_search(self):
        seen = set()
        for chance, book, name, _ in some_questions(112, 150):
            if book.bound(name) > 4:
                continue
            kind = chance.choice(book.kinds)
            degree = book.degree(name)
            found = degree_in(book, name, kind)
            shown = degree_shown(book, name, kind)
            self.assertEqual(shown, degree_shown(book, name, kind))
            seen.add(found)
            lists = list(all_rows(book.kinds, range(min(degree, 1) + 1), 3))
            powers = [max(key[0] for key in [*what_if(book, name, [*ahead, (kind, 0), *behind], [len(ahead)]), (0,)])
                      for ahead in lists for behind in lists]
            self.assertLessEqual(max(powers), found)
            if found == 0:
                self.assertIsNone(shown)
                continue
            ahead, behind = shown
            self.assertTrue(isinstance(ahead, list) and isinstance(behind, list))
            self.assertTrue(max(len(ahead), len(behind)) < book.bound(name))
            self.assertTrue(all(0 <= number <= degree for _, number in ahead + behind))
            polynomial = what_if(book, name, [*ahead, (kind, 5), *behind], [len(ahead)])
            self.assertEqual(max(polynomial)[0], found)
            # As few rows as can be.
            many = len(ahead) + len(behind)
            less = [power for power, (one, other) in zip(powers, product(lists, lists)) if len(one) + len(other) < many]
            if many <= 3:
                self.assertTrue(all(power < found for power in less))
        self.assertGreaterEqual(len(seen), 3)

    def test_together_known(self):
        square = book_of(a=("both", "sum", "sum"), b="square")
        found = together_shown(square, "a", "in", "out")
        self.assertEqual((found[0], found[2], found[4]), ([], [], []))
        self.assertNotIn(0, (found[1], found[3]))
        self.assertIsNone(together_shown(square, "b", "in", "out"))
        for name in ("a", "b"):
            self.assertIsNone(together_shown(TWO, name, "in", "in"))
            self.assertIsNone(together_shown(NOTHING, name, "out", "in"))
        # Only with a row of a third kind between them.
        start = {"x": 0, "y": 0, "z": 0}
        kept = {name: ((name, 0, 1),) for name in start}
        steps = {"in": {**kept, "x": (("", 1, 1),)}, "mid": {**kept, "y": (("x", 0, 1),), "x": ()},
                 "out": {**kept, "z": (("y", 1, 1),)}}
        third = Book({"l": Loop(start, steps, (("z", 0, 1),))}, {}, {"a": "l"})
        self.assertEqual(together_shown(other="out", one="in", name="a", book=third), ([], 1, [("mid", 0)], 1, []))
        for one, other in product(third.kinds, third.kinds):
            if (one, other) != ("in", "out"):
                self.assertIsNone(together_shown(third, "a", one, other))
        self.assertIs(is_together_shown(third, "a", "in", "out", ([], 7, [("mid", 9), ("in", 4)], -2, [("in", 1)])), True)
        self.assertIs(is_together_shown(third, "a", "in", "out", ([], 7, [("mid", 9), ("mid", 0)], -2, [])), False)

    def test_as_few_rows_together_as_can_be(self):
        product_of = Loop({"x": 0}, {"in": {"x": (("", 1, 1),)}, "mid": {"x": (("x", 0, 1),)}, "out": {"x": (("x", 1, 1),)}},
                          (("x", 0, 1),))
        # Two rows ahead would do, and one between or behind; then two between or behind, and one ahead.
        for moves, one_row in [([1, 1, 2], "between or behind"), ([0, 2, 2], "ahead")]:
            steps = {"in": moves, "mid": [1, 2, 2], "out": [0, 1, 2]}
            book = Book({"l": product_of}, {"p": Pattern(steps, [2])}, {"a": ("only", "p", "l")})
            ahead, x, between, y, behind = found = together_shown(book, "a", "in", "out")
            self.assertEqual(len(ahead) + len(between) + len(behind), 1)
            self.assertEqual(len(ahead), 1 if one_row == "ahead" else 0)
            self.assertIs(is_together_shown(book, "a", "in", "out", found), True)
            self.assertIs(is_together_shown(book, "a", "in", "out", (ahead, -1, between, -1, behind)), True)
            ahead, behind = degree_shown(book, "a", "in")
            self.assertEqual((len(ahead), len(behind)), (1, 0) if one_row == "ahead" else (0, 1))

    def test_together_against_plain_search(self):
        seen = set()
        for chance, book, name, _ in some_questions(1120, 250, (0, 1)):
            if book.bound(name) > 4:
                continue
            one, other = chance.choice(book.kinds), chance.choice(book.kinds)
            found = together_shown(book, name, one, other)
            self.assertEqual(found, together_shown(book, name, one, other))
            lists = list(all_rows(book.kinds, range(min(1, book.degree(name)) + 1), 3))
            ways = sorted(((ahead, between, behind) for ahead in lists for between in lists for behind in lists
                           if len(ahead) + len(between) + len(behind) <= 2), key=lambda way: sum(map(len, way)))
            numbers = range(1, book.degree(name) + 1)
            least = next((sum(map(len, way)) for way in ways for x in numbers for y in numbers
                          if mixed_change(book, name, one, other, way, x, y) != 0), None)
            seen.add(least)
            if found is None:
                self.assertIsNone(least)
                continue
            ahead, x, between, y, behind = found
            self.assertTrue(all(isinstance(rows, list) for rows in (ahead, between, behind)))
            many = len(ahead) + len(between) + len(behind)
            self.assertTrue(many == least if least is not None else many > 2)
            self.assertTrue(x != 0 and y != 0 and many < 3 * book.bound(name))
            self.assertNotEqual(mixed_change(book, name, one, other, (ahead, between, behind), x, y), 0)
            self.assertIs(is_together_shown(book, name, one, other, found), True)
        self.assertTrue({None, 0, 1} <= seen)

    def test_is_together_shown(self):
        for _, book, name, rows in some_questions(1121, 60):
            for x, y in [(1, 2), (-3, HUGE), (-1, 1), (1, -1)]:
                lists = rows[:1], rows[1:3], rows[3:]
                wanted = mixed_change(book, name, "in", "in", lists, x, y) != 0
                self.assertIs(is_together_shown(book, name, "in", "in", (lists[0], x, tuple(lists[1]), y, lists[2])), wanted)
        square = book_of(a=("both", "sum", "sum"))
        good = [([], 1, [], 1, []), ((), -5, (("in", 3),), 2, [("out", 1)] * 30)]
        check_any_values(self, lambda value: is_together_shown(square, "a", "in", "out", value), good)
        for value in [([], 0, [], 1, []), ([], 1, [], 0, []), ([], True, [], 1, []), ([], 1, [], 1), [[], 1, [], 1, []],
                      ([("up", 1)], 1, [], 1, []), ([], 1, [["in", 1]], 1, []), ([], 1, [], "1", []), ([], 1, [], 1, None),
                      ([], 1, [("in", True)], 1, []), ([], 1, [], 1, [], []), ({}, 1, [], 1, [])]:
            self.assertIs(is_together_shown(square, "a", "in", "out", value), False, value)
        self.assertIs(is_together_shown(thing=good[0], other="in", one="in", name="a", book=square), True)

    def test_errors(self):
        for value in ODD_VALUES:
            for call, more in [(degree_in, 1), (degree_shown, 1), (together_shown, 2), (is_together_shown, 3)]:
                with self.assertRaises(BadBook):
                    call(value, *[None] * (more + 1))
                if value != "a":
                    with self.assertRaises(NoQuestion) as caught:
                        call(TWO, value, *[None] * more)
                    self.assertIs(caught.exception.name, value)
                with self.assertRaises(BadKind) as caught:
                    call(TWO, "a", *[value] * more)
                self.assertIs(caught.exception.kind, value)
                if more > 1:
                    with self.assertRaises(BadKind) as caught:
                        call(TWO, "a", "in", *[value] * (more - 1))
                    self.assertIs(caught.exception.kind, value)

    def test_new_lists(self):
        found = together_shown(BETWEEN, "a", "in", "out")
        kept = copy.deepcopy(found)
        for rows in found[::2]:
            rows.append(("in", 1))
        self.assertEqual(together_shown(BETWEEN, "a", "in", "out"), kept)
        polynomial = what_if(TWO, "a", [("in", 1)], [0])
        polynomial.clear()
        self.assertEqual(what_if(TWO, "a", [("in", 1)], [0]), {(1,): 1})


if __name__ == "__main__":
    unittest.main()
