"""Points 50 to 55: rows that change places, become one row or are left out; pieces that close a question."""

import copy
import random
import unittest
from itertools import combinations, permutations, product

from stillknown.books import Book
from stillknown.errors import BadBook, BadKind, BadOrder, BadRows, BadSide, NoQuestion, TooMany
from stillknown.exchange import (
    as_one_row, change_apart, changes, closes, closing_kinds, idle_numbers, is_change_apart, is_let, least_order,
    may_change, mergings, thinned, undoings,
)
from stillknown.loops import Loop
from stillknown.spaces import are_one
from tests.books import FLAT, LASTS, LOOPS, NOTHING, PATTERNS, RICH, TWO
from tests.plain import (
    ODD_VALUES, all_rows, check_any_values, plain_answer, plain_told, random_book, random_pattern, random_questions,
    random_rows, random_sum,
)

EMPTY = ([], [])
SUM_ONLY = Book(LOOPS, PATTERNS, {"a": "sum"})
LAST_ONLY = Book(LOOPS, PATTERNS, {"a": "last"})
# A row does nothing if its number solves x * x = x, or x * x = 4 * x, one number each being left by c.
POWERS = Loop({"p": 0}, {"a": {"p": (("", 1, -1), ("", 2, 1), ("p", 0, 1))},
                         "b": {"p": (("", 1, -4), ("", 2, 1), ("p", 0, 1))},
                         "c": {"p": (("", 0, -6), ("", 1, 2), ("p", 0, 1))}}, (("p", 0, 1),))
SOLVED = Book({"p": POWERS}, {}, {"a": "p"})
# The rows of a and b are put together in a form that tells their order; c keeps it as it is.
STACK = Loop({"x": 0, "y": 1}, {"a": {"x": (("", 1, 1), ("x", 0, 2)), "y": (("y", 0, 1),)},
                                "b": {"x": (("x", 0, 1), ("y", 1, 1)), "y": (("y", 0, 1),)},
                                "c": {"x": (("x", 0, 1),), "y": (("y", 0, 1),)}}, (("x", 0, 1),))
STACKS = Book({"x": STACK}, {}, {"a": "x"})


def replaces(book, one, other):
    """Whether a piece may be replaced by another one."""
    return are_one(book, [(1, one)], [(1, other)])


def gentle_book(chance, kinds):
    """A book made at random whose rows often change places or do nothing."""
    def terms(variables, variable):
        kind = chance.random()
        if kind < 0.4:
            return ((variable, 0, 1),)
        if kind < 0.7:
            return (("", 1, chance.choice([1, -1])), (variable, 0, 1))
        return (("", 1, 1),) if kind < 0.8 else random_sum(chance, variables, (0, 1), 2)
    loops = {}
    for name, variables in (("one", ("x",)), ("two", ("x", "y"))):
        steps = {kind: {variable: terms(variables, variable) for variable in variables} for kind in kinds}
        loops[name] = Loop({variable: chance.randint(-2, 2) for variable in variables}, steps,
                           tuple((variable, 0, 1) for variable in variables))
    book = Book(loops, {"p": random_pattern(chance, kinds, 2)}, {"a": "one"})
    return random_questions(chance, book, 4, 2)


class ChangeTest(unittest.TestCase):
    def test_known(self):
        self.assertEqual(changes(SUM_ONLY), [("in", "in"), ("in", "out"), ("out", "out")])
        self.assertEqual(changes(LAST_ONLY), [("in", "out"), ("out", "out")])
        self.assertEqual(changes(LASTS), [("in", "out"), ("out", "out")])
        self.assertEqual(changes(RICH), [])
        self.assertEqual(changes(FLAT), changes(SUM_ONLY))
        self.assertEqual(changes(NOTHING), changes(SUM_ONLY))
        self.assertEqual(changes(book=STACKS), [("a", "c"), ("b", "b"), ("b", "c"), ("c", "c")])
        self.assertIs(may_change(LAST_ONLY, "in", "in"), False)
        self.assertIs(may_change(LAST_ONLY, "out", "in"), True)
        self.assertIs(may_change(other="in", book=LAST_ONLY, kind="in"), False)

    def test_random(self):
        chance = random.Random(51)
        both = set()
        for _ in range(40):
            book = gentle_book(chance, chance.choice([("in", "out"), ("a", "b", "c")]))
            found = changes(book)
            self.assertEqual(found, changes(book))
            self.assertEqual(found, sorted(found))
            degree = max(book.degree(name) for name in book.names)
            for kind, other in product(book.kinds, repeat=2):
                lists = [([(kind, x), (other, y)], [(other, y), (kind, x)]) for x in (0, -3, 5) for y in (0, 7, 4)]
                plain = all(replaces(book, one, two) for one, two in lists)
                self.assertIs(may_change(book, kind, other), plain)
                self.assertEqual((min(kind, other), max(kind, other)) in found, plain)
                both.add(plain)
                shown = change_apart(book, kind, other)
                self.assertEqual(shown is None, plain)
                if shown is not None:
                    x, y, reading = shown
                    self.assertTrue(0 <= x <= degree and 0 <= y <= degree)
                    self.assertNotEqual(plain_told(book, reading, [(kind, x), (other, y)]),
                                        plain_told(book, reading, [(other, y), (kind, x)]))
                    self.assertTrue(is_change_apart(book, kind, other, shown))
                    self.assertEqual(shown, change_apart(book, kind=kind, other=other))
        self.assertEqual(both, {True, False})

    def test_is_change_apart(self):
        good = [(1, 2, ("a", EMPTY)), (0, -5, ("a", ((), [("out", 3)]))), (10 ** 30 - 1, 1 - 10 ** 30, ("a", EMPTY)),
                (3, 4, ("a", ([("in", 7)], [])))]
        check_any_values(self, lambda value: is_change_apart(LAST_ONLY, "in", "in", value), good)
        wrong = [(1, 1, ("a", EMPTY)), (1, 2, ("a", ([], [("in", 3)]))), [1, 2, ("a", EMPTY)], (1, 2, ["a", EMPTY]),
                 (1, True, ("a", EMPTY)), (False, 1, ("a", EMPTY)), (1, 2, ("b", EMPTY)), (1, 2, ("a", [[], []])), (1, 2),
                 (1, 2, ("a", EMPTY), 3), (1, None, ("a", EMPTY)), (10 ** 30, 2, ("a", EMPTY)), (1, 10 ** 59, ("a", EMPTY)),
                 (1, 2, ("a", ([("in", True)], []))), (1, 2, None)]
        for value in wrong:
            self.assertIs(is_change_apart(LAST_ONLY, "in", "in", value), False, value)
        self.assertIs(is_change_apart(LAST_ONLY, "in", "out", good[0]), False)
        self.assertIs(is_change_apart(thing=good[0], other="in", kind="in", book=LAST_ONLY), True)

    def test_bad_kinds(self):
        for asked in (may_change, change_apart, mergings, lambda *told: is_change_apart(*told, None)):
            for value in ODD_VALUES:
                self.assertRaises(BadBook, asked, value, None, None)
                for kind, other in ((value, "in"), (value, None), ("in", value)):
                    with self.assertRaises(BadKind) as caught:
                        asked(TWO, kind, other)
                    self.assertIs(caught.exception.kind, value)
        for asked in (undoings, idle_numbers):
            for value in ODD_VALUES:
                self.assertRaises(BadBook, asked, value, None)
                with self.assertRaises(BadKind) as caught:
                    asked(TWO, value)
                self.assertIs(caught.exception.kind, value)
        for value in ODD_VALUES:
            self.assertRaises(BadBook, changes, value)


class OrderTest(unittest.TestCase):
    def test_known(self):
        rows = [("in", 5), ("out", 9), ("in", 3), ("out", 1)]
        self.assertEqual(least_order(LAST_ONLY, rows), [("in", 5), ("in", 3), ("out", 1), ("out", 9)])
        self.assertEqual(least_order(SUM_ONLY, rows), sorted(rows))
        self.assertEqual(least_order(RICH, rows), rows)
        self.assertEqual(least_order(book=RICH, rows=()), [])
        for order, let in [([0, 1, 2, 3], True), ([0, 2, 3, 1], True), ((1, 3, 0, 2), True), ([2, 0, 1, 3], False)]:
            self.assertIs(is_let(LAST_ONLY, rows, order), let)
            self.assertIs(is_let(book=SUM_ONLY, order=order, rows=rows), True)
            self.assertIs(is_let(RICH, tuple(rows), order), list(order) == [0, 1, 2, 3])
        # Two equal rows may not change places either, where their kind may not.
        self.assertIs(is_let(LAST_ONLY, [("in", 1), ("in", 1)], [1, 0]), False)
        self.assertIs(is_let(SUM_ONLY, [("in", 1), ("in", 1)], [1, 0]), True)

    def test_least_of_all(self):
        chance = random.Random(52)
        for _ in range(40):
            book = chance.choice([gentle_book(chance, ("a", "b", "c")), STACKS, LAST_ONLY])
            rows = random_rows(chance, book.kinds, 5, 1)
            before = list(rows)
            let = [order for order in permutations(range(len(rows))) if is_let(book, rows, list(order))]
            found = least_order(book, rows)
            self.assertEqual(rows, before)
            self.assertEqual(found, min([rows[at] for at in order] for order in let))
            self.assertTrue(replaces(book, rows, found))
            plain = [order for order in permutations(range(len(rows))) if all(
                may_change(book, rows[i][0], rows[j][0]) or order.index(i) < order.index(j)
                for i, j in combinations(range(len(rows)), 2))]
            self.assertEqual(let, plain)

    def test_equal_least_orders(self):
        # Two orders lead to one another by exchanges exactly if their least orders are equal.
        rows = [("a", 1), ("b", 2), ("c", 3), ("b", 1)]
        reached, waiting = [rows], [rows]
        while waiting:
            some = waiting.pop()
            for at in range(3):
                if may_change(STACKS, some[at][0], some[at + 1][0]):
                    other = some[:at] + [some[at + 1], some[at]] + some[at + 2:]
                    if other not in reached:
                        reached.append(other)
                        waiting.append(other)
        least = least_order(STACKS, rows)
        for some in permutations(rows):
            self.assertEqual(least_order(STACKS, some) == least, list(some) in reached)

    def test_errors(self):
        for value in ODD_VALUES:
            self.assertRaises(BadBook, is_let, value, None, None)
            self.assertRaises(BadBook, least_order, value, None)
        for asked in (lambda rows: is_let(TWO, rows, None), lambda rows: least_order(TWO, rows),
                      lambda rows: as_one_row(TWO, rows), lambda rows: thinned(TWO, rows)):
            with self.assertRaises(BadRows) as caught:
                asked([("in", 1), ("in", True)])
            self.assertEqual(caught.exception.at, 1)
            with self.assertRaises(BadRows) as caught:
                asked({})
            self.assertIsNone(caught.exception.at)
        rows = [("in", 1), ("in", 2)]
        for value in [*ODD_VALUES, [0], [0, 1, 2], [0, 0], [0, 1, 1], [1, 0, 0], [0, 2], [-1, 0], [0, True], [False, 1], [1, None], {0: 1, 1: 0}]:
            self.assertRaises(BadOrder, is_let, TWO, rows, value)
        self.assertRaises(BadOrder, is_let, TWO, [], [0])
        self.assertIs(is_let(TWO, [], ()), True)


class MergeTest(unittest.TestCase):
    def test_known(self):
        self.assertEqual(mergings(SUM_ONLY, "in", "in"), [("in", 1, 1, 0), ("out", -1, -1, 0)])
        self.assertEqual(mergings(SUM_ONLY, "in", "out"), [("in", 1, -1, 0), ("out", -1, 1, 0)])
        # The one row stands for the later one; rows that go out do nothing.
        self.assertEqual(mergings(LAST_ONLY, "in", "in"), [("in", 0, 1, 0)])
        self.assertEqual(mergings(LAST_ONLY, "out", "in"), [("in", 0, 1, 0)])
        self.assertEqual(len(mergings(LAST_ONLY, "out", "out")), 27)
        self.assertEqual(mergings(book=LAST_ONLY, other="out", kind="in"), [("in", 1, 0, 0)])
        self.assertEqual(mergings(TWO, "in", "in"), [])
        self.assertEqual(len(mergings(NOTHING, "in", "out")), 54)
        self.assertEqual(undoings(SUM_ONLY, "in"), [("in", -1, 0), ("out", 1, 0)])
        self.assertEqual(undoings(LAST_ONLY, "in"), [])
        self.assertEqual(len(undoings(LAST_ONLY, "out")), 9)
        self.assertEqual(undoings(kind="in", book=TWO), [])
        self.assertEqual(undoings(SOLVED, "c"), [])

    def test_shifted(self):
        # A row of a adds t + 1: two are one with a number one greater; -t - 2 undoes t, which is too far.
        steps = {"a": {"x": (("", 0, 1), ("", 1, 1), ("x", 0, 1))}, "b": {"x": (("", 1, 1), ("x", 0, 1))}}
        book = Book({"x": Loop({"x": 0}, steps, (("x", 0, 1),))}, {}, {"q": "x"})
        self.assertEqual(mergings(book, "a", "a"), [("a", 1, 1, 1)])
        self.assertEqual(mergings(book, "a", "b"), [("a", 1, 1, 0), ("b", 1, 1, 1)])
        self.assertEqual(undoings(book, "a"), [("b", -1, -1)])
        self.assertEqual(undoings(book, "b"), [("a", -1, -1), ("b", -1, 0)])

    def test_squares(self):
        # What a row adds is its square: the greater numbers matter for undoings of the degree two.
        steps = {"a": {"x": (("", 2, 1), ("x", 0, 1))}, "b": {"x": (("", 2, -1), ("x", 0, 1))}}
        book = Book({"x": Loop({"x": 0}, steps, (("x", 0, 1),))}, {}, {"q": "x"})
        self.assertEqual(undoings(book, "a"), [("b", -1, 0), ("b", 1, 0)])
        self.assertEqual(mergings(book, "a", "b"), [])
        self.assertEqual(idle_numbers(book, "a"), (0,))

    def test_undone_for_small_numbers_only(self):
        # In x and y and z the numbers 0 and 1 are undone, but from 2 on a part of x is left in z.
        loop = Loop({"x": 1, "y": 0, "z": 0}, {
            "k": {"x": (("x", 0, 1),), "y": (("x", 1, 1), ("y", 0, 1)), "z": (("y", 1, 1), ("z", 0, 1))},
            "l": {"x": (("x", 0, 1),), "y": (("x", 1, -1), ("y", 0, 1)),
                  "z": (("x", 1, 1), ("y", 1, -1), ("z", 0, 1))}}, (("z", 0, 1),))
        book = Book({"l": loop}, {}, {"a": "l"})
        self.assertEqual([replaces(book, [("k", x), ("l", x)], []) for x in range(4)], [True, True, False, False])
        self.assertEqual(undoings(book, "k"), [])

    def test_random(self):
        chance = random.Random(53)
        found = 0
        for _ in range(15):
            book = gentle_book(chance, ("in", "out"))
            for kind, other in product(book.kinds, repeat=2):
                told = mergings(book, kind, other)
                found += len(told)
                self.assertEqual(told, mergings(book, kind, other))
                plain = [(m, a, b, c) for m, a, b, c in product(book.kinds, (-1, 0, 1), (-1, 0, 1), (-1, 0, 1))
                         if all(replaces(book, [(kind, x), (other, y)], [(m, a * x + b * y + c)])
                                for x, y in ((0, 0), (5, 1), (-2, 7), (3, -4), (1, 2)))]
                self.assertEqual(told, plain)
            for kind in book.kinds:
                plain = [(m, a, c) for m, a, c in product(book.kinds, (-1, 0, 1), (-1, 0, 1))
                         if all(replaces(book, [(kind, x), (m, a * x + c)], []) for x in (-5, 0, 1, 4, 9))]
                self.assertEqual(undoings(book, kind), plain)
                found += len(plain)
        self.assertGreater(found, 50)


class IdleTest(unittest.TestCase):
    def test_known(self):
        self.assertEqual([idle_numbers(SOLVED, kind) for kind in "abc"], [(0, 1), (0, 4), (3,)])
        self.assertIsNone(idle_numbers(LAST_ONLY, "out"))
        self.assertEqual(idle_numbers(LAST_ONLY, "in"), ())
        self.assertIsNone(idle_numbers(NOTHING, "in"))
        self.assertEqual(idle_numbers(SUM_ONLY, "in"), (0,))
        self.assertEqual(idle_numbers(kind="in", book=TWO), ())

    def test_far_numbers(self):
        # Rows that multiply by nine and add nine, with one row that makes up for 30 of them.
        nine = Loop({"x": 1}, {"a": {"x": (("x", 0, 9),)}, "b": {"x": (("", 1, 1),)}}, (("x", 0, 1),))
        book = Book({"x": nine}, {}, {"q": "x"})
        piece = [("b", 1)] + [("a", 0)] * 30
        self.assertEqual(as_one_row(book, piece), {"b": (9 ** 30,)})
        self.assertEqual(as_one_row(book, [("b", 10 ** 29), ("a", 3)]), {"b": (9 * 10 ** 29,)})

    def test_as_one_row(self):
        self.assertEqual(as_one_row(SUM_ONLY, [("in", 3), ("out", 5)]), {"in": (-2,), "out": (2,)})
        self.assertEqual(as_one_row(LAST_ONLY, []), {"out": None})
        self.assertEqual(as_one_row(LAST_ONLY, [("in", 3), ("in", 4)]), {"in": (4,)})
        self.assertEqual(as_one_row(TWO, [("in", 3), ("in", 4)]), {})
        self.assertEqual(as_one_row(piece=(("out", 3),), book=TWO), {"in": (-3,), "out": (3,)})
        self.assertEqual(as_one_row(NOTHING, [("in", 3)] * 40), {"in": None, "out": None})
        self.assertEqual(as_one_row(SOLVED, []), {"a": (0, 1), "b": (0, 4), "c": (3,)})
        self.assertEqual(as_one_row(SOLVED, [("a", 3), ("c", 0)]), {"a": (0, 1), "b": (0, 4), "c": (3,)})
        self.assertEqual(as_one_row(SOLVED, [("a", 4)]), {"a": (-3, 4), "b": (-2, 6), "c": (9,)})
        self.assertEqual(as_one_row(SOLVED, [("c", 2)]), {"c": (2,)})
        self.assertEqual(list(as_one_row(SOLVED, [])), ["a", "b", "c"])
        found = as_one_row(SOLVED, [])
        found.clear()
        self.assertEqual(len(as_one_row(SOLVED, [])), 3)

    def test_random(self):
        chance = random.Random(54)
        for _ in range(40):
            book = gentle_book(chance, chance.choice([("in", "out"), ("a", "b", "c")]))
            piece = random_rows(chance, book.kinds, 2, 2)
            found = as_one_row(book, piece)
            for kind, number in product(book.kinds, range(-5, 6)):
                told = kind in found and (found[kind] is None or number in found[kind])
                self.assertEqual(told, replaces(book, piece, [(kind, number)]))
                idle = idle_numbers(book, kind)
                self.assertEqual(idle is None or number in idle, replaces(book, [(kind, number)], []))

    def test_errors(self):
        for value in ODD_VALUES:
            self.assertRaises(BadBook, as_one_row, value, None)
            self.assertRaises(BadBook, thinned, value, None)


class ThinnedTest(unittest.TestCase):
    def test_known(self):
        self.assertEqual(thinned(LAST_ONLY, [("in", 1), ("out", 2), ("in", 3), ("out", 4)]), (2,))
        self.assertEqual(thinned(LAST_ONLY, [("in", 3), ("in", 3)]), (0,))
        self.assertEqual(thinned(SUM_ONLY, [("in", 1), ("in", 2), ("out", 3)]), ())
        self.assertEqual(thinned(SUM_ONLY, [("in", 1), ("in", 2), ("in", 3), ("out", 2)]), (0, 2))
        self.assertEqual(thinned(rows=(("in", 1), ("in", 2)), book=TWO), (0, 1))
        self.assertEqual(thinned(NOTHING, [("in", 1)] * 10), ())
        self.assertEqual(thinned(TWO, []), ())

    def test_ten_and_eleven(self):
        self.assertEqual(thinned(TWO, [("in", 1)] * 10), tuple(range(10)))
        with self.assertRaises(TooMany) as caught:
            thinned(TWO, [("in", 1)] * 11)
        self.assertEqual(caught.exception.most, 10)
        with self.assertRaises(BadRows) as caught:
            thinned(TWO, [("in", 1)] * 11 + [None])
        self.assertEqual(caught.exception.at, 11)

    def test_against_all_lots(self):
        chance = random.Random(55)
        shorter = 0
        for _ in range(40):
            book = gentle_book(chance, chance.choice([("in", "out"), ("a", "b", "c")]))
            rows = random_rows(chance, book.kinds, 5, 1)
            found = thinned(book, rows)
            lots = [lot for many in range(len(rows) + 1) for lot in combinations(range(len(rows)), many)
                    if replaces(book, [rows[at] for at in lot], rows)]
            self.assertEqual(found, lots[0])
            shorter += len(found) < len(rows)
        self.assertGreater(shorter, 10)


class ClosesTest(unittest.TestCase):
    def test_known(self):
        for piece, side, told in [([("in", 3)], "ahead", True), ([("out", 3)], "ahead", False), ([], "ahead", False),
                                  ([("in", 3), ("out", 1)], "ahead", True), ([("in", 3)], "behind", False)]:
            self.assertIs(closes(LAST_ONLY, "a", piece, side), told)
        self.assertIs(closes(side="ahead", piece=(("in", 3),), name="a", book=LAST_ONLY), True)
        self.assertEqual(closing_kinds(LAST_ONLY, "a", "ahead"), ["in"])
        self.assertEqual(closing_kinds(LAST_ONLY, "a", "behind"), [])
        turned = Book(LOOPS, PATTERNS, {"a": ("turned", "last"), "b": "last"})
        self.assertEqual(closing_kinds(side="behind", name="a", book=turned), ["in"])
        self.assertEqual(closing_kinds(turned, "a", "ahead"), [])
        self.assertEqual(closing_kinds(NOTHING, "a", "ahead"), ["in", "out"])
        self.assertEqual(closing_kinds(FLAT, "b", "behind"), ["in", "out"])
        self.assertIs(closes(FLAT, "b", [], "behind"), True)
        # Two rows in may never be followed: then it answers 0 whatever stands around.
        short = Book(LOOPS, PATTERNS, {"a": ("only", "short", "sum"), "b": "last"})
        self.assertIs(closes(short, "a", [("in", 3), ("in", 4)], "ahead"), True)
        self.assertIs(closes(short, "a", [("in", 3), ("in", 4)], "behind"), True)
        self.assertIs(closes(short, "a", [("in", 3)], "behind"), False)

    def test_number_matters(self):
        # A row closes what is ahead only with the numbers that make its factor 0.
        factor = Loop({"x": 1}, {"a": {"x": (("x", 0, 2), ("x", 1, -1))}, "b": {"x": (("x", 0, 1),)}}, (("x", 0, 1),))
        book = Book({"x": factor}, {}, {"q": "x"})
        self.assertIs(closes(book, "q", [("a", 2)], "ahead"), True)
        self.assertIs(closes(book, "q", [("a", 3)], "ahead"), False)
        self.assertEqual(closing_kinds(book, "q", "ahead"), [])

    def test_random(self):
        chance = random.Random(56)
        told = []
        for _ in range(40):
            book = gentle_book(chance, ("in", "out")) if chance.random() < 0.7 else random_questions(
                chance, random_book(chance), 4, 2)
            name = chance.choice(book.names)
            piece = random_rows(chance, book.kinds, 3)
            lists = list(all_rows(book.kinds, (0, 1, 3), 3))
            for side in ("ahead", "behind"):
                plain = True
                for fixed in all_rows(book.kinds, (0, 2), 3):
                    answers = {plain_answer(book, book.questions[name],
                                            rows + piece + fixed if side == "ahead" else fixed + piece + rows)
                               for rows in lists}
                    plain = plain and len(answers) == 1
                self.assertIs(closes(book, name, piece, side), plain)
                told.append(plain)
                kinds = [kind for kind in book.kinds
                         if all(closes(book, name, [(kind, number)], side) for number in (-7, 0, 1, 2, 5))]
                self.assertEqual(closing_kinds(book, name, side), kinds)
        self.assertTrue(10 < sum(told) < 70)

    def test_errors(self):
        for value in ODD_VALUES:
            self.assertRaises(BadBook, closes, value, None, None, None)
            self.assertRaises(BadBook, closing_kinds, value, None, None)
            if value != "a":
                with self.assertRaises(NoQuestion) as caught:
                    closes(TWO, value, None, None)
                self.assertIs(caught.exception.name, value)
                with self.assertRaises(NoQuestion):
                    closing_kinds(TWO, value, None)
            self.assertRaises(BadSide, closes, TWO, "a", [], value)
            self.assertRaises(BadSide, closing_kinds, TWO, "a", value)
        with self.assertRaises(BadRows) as caught:
            closes(TWO, "a", [None], None)
        self.assertEqual(caught.exception.at, 0)
        self.assertRaises(BadRows, closes, TWO, "a", "ahead", "ahead")

    def test_new_results(self):
        for asked in (lambda: changes(TWO), lambda: least_order(TWO, [("in", 1)]), lambda: mergings(LAST_ONLY, "in", "in"),
                      lambda: undoings(SUM_ONLY, "in"), lambda: closing_kinds(LAST_ONLY, "a", "ahead"),
                      lambda: change_apart(LAST_ONLY, "in", "in")[2][1][0]):
            kept = copy.deepcopy(asked())
            asked().append(1)
            self.assertEqual(asked(), kept)


if __name__ == "__main__":
    unittest.main()
