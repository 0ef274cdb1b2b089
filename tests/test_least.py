"""Points 21, 22 and 24: least forms, questions alike, questions learned."""

import copy
import random
import unittest
from fractions import Fraction

from stillknown.books import Book
from stillknown.errors import BadBook, BadExpression, BadForm, BadKinds, BadNumber, TooMany
from stillknown.forms import form_answer, is_form_of
from stillknown.least import (
    alike, is_least_shown, learned, least_form, least_shown, least_size, parted, picture,
)
from stillknown.loops import Loop
from stillknown.ownforms import own_form
from stillknown.patterns import Pattern
from tests.plain import ODD_VALUES, all_rows, determinant, plain_answer, random_book, random_expression

KINDS = ("in", "out")
SUM = Loop({"s": 0}, {"in": {"s": (("", 1, 1), ("s", 0, 1))}, "out": {"s": (("", 1, -1), ("s", 0, 1))}},
           (("s", 0, 1),))
COUNT = Loop({"n": 0}, {kind: {"n": (("", 0, 1), ("n", 0, 1))} for kind in KINDS}, (("n", 0, 1),))
TWICE = Loop({"n": 0, "m": 0}, {kind: {"n": (("", 0, 1), ("n", 0, 1)), "m": (("", 0, 1), ("m", 0, 1))}
                                for kind in KINDS}, (("m", 0, 1), ("n", 0, 1)))
SQUARE = Loop({"q": 0}, {kind: {"q": (("", 2, 1), ("q", 0, 1))} for kind in KINDS}, (("q", 0, 1),))
ZERO = Loop({"x": 5}, {kind: {"x": (("x", 2, 3),)} for kind in KINDS}, ())
ONE = Loop({"x": 1}, {kind: {"x": (("x", 0, 1),)} for kind in KINDS}, (("x", 0, 1),))
EVEN = Pattern({"in": [1, 0], "out": [0, 1]}, [0])
BOOK = Book({"sum": SUM, "many": COUNT, "twice": TWICE, "square": SQUARE}, {"even": EVEN}, {"a": "sum"})
FLAT = Book({"zero": ZERO, "one": ONE, "sum": SUM}, {}, {"a": "zero"})
LARGE = ("plus", ("cuts", "sum", "sum"), "twice")
NOTHING = ((), {"in": ((),), "out": ((),)}, ())


def rank(table):
    """The rank of a table, with fractions."""
    lines = [[Fraction(x) for x in line] for line in table]
    found = 0
    for place in range(len(lines[0]) if lines else 0):
        pivots = [line for line in lines if line[place] != 0]
        if pivots:
            pivot = pivots[0]
            lines = [[x - line[place] / pivot[place] * y for x, y in zip(line, pivot)]
                     for line in lines if line is not pivot]
            found += 1
    return found


def plain_rank(book, question, below):
    """The rank of the table of all answers for short row lists with the numbers that are enough."""
    lists = list(all_rows(book.kinds, range(book.degree_of(question) + 1), below))
    return rank([[plain_answer(book, question, one + other) for other in lists] for one in lists])


class LeastTest(unittest.TestCase):
    def test_sizes(self):
        for question, size in [
                ("sum", 2), ("many", 2), ("twice", 2), (("plus", "many", "twice"), 2), (("times", 0, "sum"), 0),
                (("plus", "sum", "many"), 2), (("both", "sum", "sum"), 3), (("both", "many", "sum"), 4),
                (("plus", "many", ("times", -1, "many")), 0), (("star", ("times", 0, "sum")), 1),
                (("star", "many"), 3), (("turned", "sum"), 2), (("without", "in", "many"), 2),
                (("only", "even", "many"), 4), (("cuts", "many", "sum"), 4), (("cuts", "many", "many"), 4)]:
            self.assertEqual(least_size(BOOK, question), size, question)
        self.assertEqual((least_size(FLAT, "zero"), least_size(FLAT, "one")), (0, 1))
        self.assertEqual(least_size(book=FLAT, question=("plus", "one", "one")), 1)

    def test_random_questions(self):
        chance = random.Random(22)
        for _ in range(200):
            book = random_book(chance)
            question = random_expression(chance, book, 6)
            size = least_size(book, question)
            form = least_form(book, question)
            self.assertEqual(len(form[0]), size)
            self.assertTrue(is_form_of(book, question, form))
            self.assertEqual(form, least_form(book, question))
            self.assertEqual(list(form[1]), list(book.kinds))
            shown = least_shown(book, question)
            self.assertTrue(is_least_shown(book, question, shown))
            self.assertEqual(shown, least_shown(book, question))
            aheads, behinds = shown
            self.assertEqual((len(aheads), len(behinds)), (size, size))
            self.assertTrue(all(len(rows) < book.bound_of(question) for rows in aheads + behinds))
            table = [[plain_answer(book, question, one + other) for other in behinds] for one in aheads]
            self.assertNotEqual(determinant(table), 0)

    def test_sizes_against_plain_ranks(self):
        chance = random.Random(23)
        for _ in range(25):
            book = random_book(chance, powers=(0, 1))
            question = random_expression(chance, book, 4, 3)
            if book.degree_of(question) < 2:
                self.assertEqual(least_size(book, question), plain_rank(book, question, 3 if book.bound_of(question) < 4 else 4))

    def test_shown_is_new_and_of_lists(self):
        shown = least_shown(BOOK, "sum")
        self.assertIsInstance(shown, tuple)
        self.assertIsInstance(shown[0], list)
        self.assertIsInstance(shown[0][0], list)
        again = copy.deepcopy(shown)
        shown[0].clear()
        shown[1][0].append(3)
        self.assertEqual(least_shown(BOOK, "sum"), again)
        form = least_form(BOOK, "sum")
        form[1].clear()
        self.assertTrue(is_form_of(BOOK, "sum", least_form(BOOK, "sum")))
        self.assertEqual(least_shown(FLAT, "zero"), ([], []))

    def test_is_least_shown(self):
        far = [("in", 10 ** 29)] * 39
        for good in [([[], [("in", 1)]], [[], [("out", 1)]]), (([], far), [[], far]), ((far, []), ((), tuple(far))),
                     ([[("in", 4)], [("in", 5)]], [[("in", 3)], [("in", -3)]])]:
            self.assertIs(is_least_shown(BOOK, "sum", good), True)
        for bad in [*ODD_VALUES, ([], []), [[[], [("in", 1)]], [[], [("in", 1)]]], ([[], []], [[], [("in", 1)]]),
                    ([[], [("in", 0)]], [[], [("in", 1)]]), ([[], [("in", 1)]], [[], [("in", True)]]),
                    ([[], [("in", 1)]], [[], [["in", 1]]]), ([[], [("no", 1)]], [[], [("in", 1)]]),
                    ([[], [("in", 1)]], [[], None]), ([[], [("in", 1)]], [[]]), ([[]], [[]]), ([[]], [[("in", 1)]]),
                    ([[], [("in", 1)], [("in", 2)]], [[], [("in", 1)], [("in", 2)]]), ([[], [("in", 1)]],),
                    ([[], [("in", 1)]], [[], [("in", 1), ("out", 1)]]), ([[], [("in", 1)]], {"a": []}), BOOK,
                    ([[], [("in", 1)]], [[], [("in", 1)]], []), ("ab", "ab"), ({1: [], 2: []}, [[], [("in", 1)]])]:
            self.assertIs(is_least_shown(BOOK, "sum", bad), False, bad)
        self.assertIs(is_least_shown(FLAT, "zero", ([], ())), True)
        self.assertIs(is_least_shown(FLAT, "zero", ([[]], [[]])), False)
        self.assertIs(is_least_shown(FLAT, "zero", []), False)
        self.assertIs(is_least_shown(book=FLAT, question="one", thing=([[("in", 3)]], [far])), True)

    def test_errors(self):
        for asked in (least_size, least_form, least_shown, lambda book, question: is_least_shown(book, question, 1),
                      lambda book, question: picture(book, question, 1, 2),
                      lambda book, question: alike(book, question, None), lambda book, question: parted(book, question, 1)):
            for value in ODD_VALUES:
                with self.assertRaises(BadBook) as caught:
                    asked(value, None)
                self.assertIsNone(caught.exception.part)
            with self.assertRaises(BadExpression) as caught:
                asked(BOOK, ("plus", LARGE, ("times", 99, "sum")))
            self.assertEqual(caught.exception.spot, (2,))
            with self.assertRaises(TooMany) as caught:
                asked(BOOK, LARGE)
            self.assertEqual(caught.exception.most, 6)


class PictureTest(unittest.TestCase):
    def holds(self, one, other, shown):
        table, divisor = shown
        size = len(one[0])
        self.assertGreater(divisor, 0)
        most = max(len(tables) for form in (one, other) for tables in form[1].values())

        def times(left, right):
            return [[sum(left[i][k] * right[k][j] for k in range(size)) for j in range(len(right[0]))]
                    for i in range(len(left))]

        zero = [[0] * size for _ in range(size)]
        self.assertEqual([[divisor * x for x in other[0]]], times([one[0]], table))
        for kind in one[1]:
            for power in range(most):
                left, right = [form[1][kind][power] if power < len(form[1][kind]) else zero for form in (one, other)]
                self.assertEqual(times(left, table), times(table, right))
        self.assertEqual([[divisor * x] for x in one[2]], times(table, [[x] for x in other[2]]))

    def changed(self, form, table, back):
        """The same form in other coordinates; back is the way back and whole."""
        size = len(form[0])

        def times(left, right):
            return tuple(tuple(sum(left[i][k] * right[k][j] for k in range(size)) for j in range(len(right[0])))
                         for i in range(len(left)))

        tables = {kind: tuple(times(back, times(one, table)) for one in form[1][kind]) for kind in form[1]}
        end = tuple(x for (x,) in times(back, [[x] for x in form[2]]))
        return times([form[0]], table)[0], tables, end

    def test_random_questions(self):
        chance = random.Random(24)
        for _ in range(60):
            book = random_book(chance)
            question = random_expression(chance, book, 6)
            form = least_form(book, question)
            size = len(form[0])
            if size == 0:
                continue
            number = chance.randint(-3, 3)
            table = [[1 if i == j else number if (i, j) == (0, size - 1) else 0 for j in range(size)] for i in range(size)]
            back = [[1 if i == j else -number if (i, j) == (0, size - 1) else 0 for j in range(size)] for i in range(size)]
            if size == 1:
                table = back = [[-1]]
            other = self.changed(form, table, back)
            shown = picture(book, question, form, other)
            self.assertEqual(shown, (tuple(map(tuple, table)), 1))
            self.holds(form, other, shown)
            self.holds(other, form, picture(book, question, other, form))

    def test_fractions(self):
        one = ((1, 0), {"in": (((1, 0), (0, 1)), ((0, 6), (0, 0))), "out": (((1, 0), (0, 1)), ((0, -6), (0, 0)))}, (0, 1))
        six = ((6, 0), {"in": (((1, 0), (0, 1)), ((0, 1), (0, 0))), "out": (((1, 0), (0, 1)), ((0, -1), (0, 0)))}, (0, 1))
        question = ("times", 6, "sum")
        self.assertEqual(picture(BOOK, question, one, six), (((6, 0), (0, 1)), 1))
        self.assertEqual(picture(BOOK, question, six, one), (((1, 0), (0, 6)), 6))
        self.assertEqual(picture(book=BOOK, question=question, one_form=six, other_form=six), (((1, 0), (0, 1)), 1))
        more = (six[0], {kind: (*tables, ((0, 0), (0, 0))) for kind, tables in six[1].items()}, six[2])
        self.assertEqual(picture(BOOK, question, more, one), (((1, 0), (0, 6)), 6))

    def test_nothing(self):
        self.assertEqual(picture(FLAT, "zero", NOTHING, NOTHING), ((), 1))

    def test_bad_forms(self):
        good = least_form(BOOK, "sum")
        for value in [*ODD_VALUES, NOTHING, least_form(BOOK, "many"), own_form(BOOK, ("cuts", "many", "sum")), list(good),
                      own_form(BOOK, ("plus", "sum", "many")), ((True, 0), good[1], good[2])]:
            for forms in [(good, value), (value, good), (value, value)]:
                with self.assertRaises(BadForm):
                    picture(BOOK, "sum", *forms)
        with self.assertRaises(BadForm):
            picture(BOOK, "twice", own_form(BOOK, "twice"), least_form(BOOK, "twice"))


class AlikeTest(unittest.TestCase):
    def test_alike(self):
        for one, other, same in [
                ("twice", ("times", 2, "many"), True), ("sum", ("turned", "sum"), True), ("sum", "many", False),
                (("cuts", "sum", "many"), ("turned", ("cuts", "many", "sum")), True),
                (("times", 0, "sum"), ("times", 0, "many"), True), ("sum", ("without", "out", "sum"), False),
                (("cuts", "sum", "many"), ("cuts", "many", "sum"), False)]:
            self.assertIs(alike(BOOK, one, other), same)
            self.assertIs(alike(book=BOOK, one=other, other=one), same)
            self.assertEqual(parted(BOOK, one, other) is None, same)

    def test_parted(self):
        self.assertEqual(parted(BOOK, "sum", "many"), [("in", 0)])
        self.assertEqual(parted(BOOK, "sum", "square"), [("in", 2)])
        self.assertEqual(parted(BOOK, "sum", ("without", "out", "sum")), [("out", 1)])
        self.assertEqual(parted(BOOK, one=("star", "sum"), other="many"), [])
        self.assertIsInstance(parted(BOOK, "sum", "many"), list)
        # Below three rows both are alike, and numbers 0 and 1 do not part them.
        self.assertEqual(parted(BOOK, ("both", "sum", "sum"), ("cuts", "sum", "sum")), [("in", 1)])

    def test_against_all_rows(self):
        chance = random.Random(25)
        for _ in range(80):
            book = random_book(chance, powers=(0, 1))
            one = random_expression(chance, book, 5, 3)
            other = random_expression(chance, book, 5, 3)
            if chance.random() < 0.4:
                other = ("plus", one, ("times", 0, other)) if book.bound_of(one) + book.bound_of(other) < 7 else one
            degree = max(book.degree_of(one), book.degree_of(other))
            found = parted(book, one, other)
            self.assertEqual(found is None, alike(book, one, other))
            for rows in all_rows(book.kinds, range(degree + 1), 4):
                if plain_answer(book, one, rows) != plain_answer(book, other, rows):
                    self.assertEqual(found, rows)
                    break
            else:
                self.assertTrue(found is None or len(found) > 3)

    def test_late_difference(self):
        # Marks the fourth row of the kind "in" from behind: parted behind four rows alone.
        chain = Loop({"a": 1, "b": 0, "c": 0}, {"in": {"a": (), "b": (("a", 0, 1),), "c": (("b", 0, 1),)},
                                               "out": {"a": (), "b": (), "c": ()}}, (("c", 0, 1),))
        book = Book({"chain": chain, "zero": ZERO}, {}, {"a": "chain"})
        self.assertEqual(parted(book, "chain", "zero"), [("in", 0)] * 2)
        self.assertEqual(parted(book, ("cuts", "chain", "zero"), "zero"), None)
        self.assertEqual(least_size(book, "chain"), 3)

    def test_errors_in_order(self):
        for asked in (alike, parted):
            with self.assertRaises(TooMany):
                asked(BOOK, LARGE, "no")
            with self.assertRaises(BadExpression) as caught:
                asked(BOOK, "sum", ("star", "no"))
            self.assertEqual(caught.exception.spot, (1,))
            with self.assertRaises(TooMany):
                asked(BOOK, "sum", LARGE)
            with self.assertRaises(BadBook):
                asked(None, "sum", LARGE)


class LearnedTest(unittest.TestCase):
    def learn(self, book, question, size, degree):
        """The form learned, with all that is asked being looked at."""
        def ask(rows):
            self.assertIsInstance(rows, list)
            self.assertLess(len(rows), 2 * size)
            for row in rows:
                self.assertIsInstance(row, tuple)
                self.assertIn(row[0], book.kinds)
                self.assertTrue(0 <= row[1] <= degree)
            answer = plain_answer(book, question, rows)
            rows.append(None)
            return answer

        return learned(ask, list(book.kinds), size, degree)

    def test_ordinary(self):
        for question, size, degree in [("sum", 2, 1), ("many", 2, 0), ("square", 2, 2), (("both", "sum", "sum"), 3, 2),
                                       (("star", "many"), 3, 0), ("sum", 3, 1), ("sum", 3, 2), ("many", 3, 2),
                                       (("times", 0, "sum"), 0, 0), (("times", 0, "sum"), 3, 1), ("twice", 2, 0)]:
            form = self.learn(BOOK, question, size, degree)
            self.assertTrue(is_form_of(BOOK, question, form), question)
            self.assertEqual(len(form[0]), least_size(BOOK, question))
            self.assertEqual(form, self.learn(BOOK, question, size, degree))
        self.assertEqual(self.learn(FLAT, "zero", 0, 0), NOTHING)

    def test_random_questions(self):
        chance = random.Random(26)
        learned_ones = 0
        while learned_ones < 60:
            book = random_book(chance)
            question = random_expression(chance, book, 6)
            size, degree = least_size(book, question), book.degree_of(question)
            if size > 3 or degree > 2:
                continue
            learned_ones += 1
            form = self.learn(book, question, chance.randint(size, 3), chance.randint(degree, 2))
            self.assertEqual(len(form[0]), size)
            self.assertTrue(is_form_of(book, question, form))

    def test_powers_that_are_not_even(self):
        # The answer is a product of squares less numbers: the tables of rows hide a half.
        loop = Loop({"x": 1}, {"in": {"x": (("x", 1, 1), ("x", 2, 3))}}, (("x", 0, 1),))
        book = Book({"x": loop}, {}, {"a": "x"})
        form = self.learn(book, "x", 1, 2)
        self.assertEqual(form_answer(["in"], form, [("in", 10 ** 20)]), 3 * 10 ** 40 + 10 ** 20)
        self.assertTrue(is_form_of(book, "x", form))

    def test_one_kind(self):
        rows = [("a", -5), ("a", 7)] * 10
        for size, told in [(1, lambda some: 5), (2, len), (3, lambda some: len(some) ** 2 - 3),
                           (3, lambda some: 1 if len(some) == 2 else 0)]:
            for most in range(size, 4):
                form = learned(told, ["a"], most, 0)
                self.assertEqual(len(form[0]), size)
                for many in range(21):
                    self.assertEqual(form_answer(["a"], form, rows[:many]), told(rows[:many]))

    def test_one_way_alone(self):
        # Only a row of "b" and one of "c" behind it lead to an answer that is not 0.
        form = learned(lambda some: 1 if [row[0] for row in some] == ["b", "c"] else 0, list("abc"), 3, 1)
        self.assertEqual(len(form[0]), 3)
        for some in all_rows(list("abc"), (4,), 5):
            self.assertEqual(form_answer(list("abc"), form, some), 1 if some == [("b", 4), ("c", 4)] else 0)

    def test_kinds_and_exceptions(self):
        form = learned(ask=lambda rows: len(rows), kinds=("b", "a", "c"), size=2, degree=0)
        self.assertEqual(list(form[1]), ["a", "b", "c"])
        self.assertEqual(form_answer(["c", "a", "b"], form, [("a", 1), ("c", 5), ("b", -4)]), 3)

        def refuse(rows):
            raise KeyError("gone")
        with self.assertRaises(KeyError):
            learned(refuse, ["a"], 1, 0)

    def test_errors_in_order(self):
        def ask(rows):
            return 0
        for kinds in [*ODD_VALUES, ["a", "a"], ["t"], list("abcd"), "abc", [1]]:
            if kinds not in (["a"], ("a",)):
                with self.assertRaises(BadKinds):
                    learned(ask, kinds, None, None)
        for part, size, degree in [("size", 4, 3), ("size", -1, 0), ("size", True, 0), ("size", "1", None),
                                   ("size", None, 0), ("degree", 3, 3), ("degree", 0, -1), ("degree", 1, False),
                                   ("degree", 2, []), ("degree", 2, None)]:
            with self.assertRaises(BadNumber) as caught:
                learned(ask, ["a"], size, degree)
            self.assertEqual(caught.exception.part, part)

    def test_no_such_question_ends(self):
        for ask in (lambda rows: 3 ** len(rows) % 7, lambda rows: sum(5 ** at * row[1] for at, row in enumerate(rows)) % 11, lambda rows: 10 ** len(rows) // 7):
            learned(ask, ["a", "b"], 2, 2)


if __name__ == "__main__":
    unittest.main()
