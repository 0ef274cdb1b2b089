"""Points 3, 4, 5 and 13: expressions and books."""

import random
import unittest

from stillknown.books import Book
from stillknown.errors import BadBook, BadExpression, BadRows, NoQuestion, TooMany
from stillknown.loops import Loop
from stillknown.patterns import Pattern
from tests.plain import ODD_VALUES, all_rows, plain_answer, random_book, random_expression

KINDS = ("in", "out")
SUM = Loop({"s": 0}, {"in": {"s": (("", 1, 1), ("s", 0, 1))}, "out": {"s": (("", 1, -1), ("s", 0, 1))}},
           (("s", 0, 1),))
COUNT = Loop({"n": 0}, {kind: {"n": (("", 0, 1), ("n", 0, 1))} for kind in KINDS}, (("n", 0, 1),))
ONE = Loop({"n": 1}, {kind: {"n": (("n", 0, 1),)} for kind in KINDS}, (("n", 0, 1),))
THREE = Loop({"x": 1, "y": 2, "z": 3}, {kind: {name: ((name, 2, 1),) for name in "xyz"} for kind in KINDS},
             (("x", 0, 1), ("y", 0, 1)))
EVEN = Pattern({"in": [1, 0], "out": [0, 1]}, [0])
FOUR = Pattern({kind: [1, 2, 3, 0] for kind in KINDS}, [1])
LOOPS = {"sum": SUM, "many": COUNT, "one": ONE, "three": THREE}
PATTERNS = {"even": EVEN, "four": FOUR}


def nested(many):
    """An expression with so many within one another."""
    expression = "one"
    for _ in range(many - 1):
        expression = ("turned", expression)
    return expression


def book_of(**questions):
    return Book(LOOPS, PATTERNS, questions)


class AnswerTest(unittest.TestCase):
    def setUp(self):
        self.book = book_of(a="sum")

    def told(self, expression, rows):
        return self.book.answer_of(expression, rows)

    def test_each_word(self):
        rows = [("in", 5), ("out", 2), ("in", 1)]
        self.assertEqual(self.told("sum", rows), 4)
        self.assertEqual(self.told(("plus", "sum", "many"), rows), 7)
        self.assertEqual(self.told(("times", -9, "sum"), rows), -36)
        self.assertEqual(self.told(("times", 0, "sum"), rows), 0)
        self.assertEqual(self.told(("both", "sum", "many"), rows), 12)
        # Cut ahead of 0, 1, 2, 3 rows: the count ahead, times the sum behind.
        self.assertEqual(self.told(("cuts", "many", "sum"), rows), 0 * 4 + 1 * -1 + 2 * 1 + 3 * 0)
        self.assertEqual(self.told(("cuts", "one", "one"), []), 1)
        self.assertEqual(self.told(("cuts", "one", "one"), rows), 4)
        self.assertEqual(self.told(("star", "one"), []), 1)
        self.assertEqual(self.told(("star", "one"), rows), 4)
        self.assertEqual(self.told(("star", "sum"), rows), 4 + 5 * -1 + 3 * 1 + 5 * -2 * 1)
        self.assertEqual(self.told(("turned", ("cuts", "many", "sum")), rows), 1 * 3 + 2 * 5)
        self.assertEqual(self.told(("without", "out", "many"), rows), 2)
        self.assertEqual(self.told(("without", "in", "sum"), rows), -2)
        self.assertEqual(self.told(("only", "even", "sum"), rows), 4)
        self.assertEqual(self.told(("only", "even", "sum"), rows[:2]), 0)
        self.assertEqual(self.told(("only", "four", "many"), rows[:1]), 1)

    def test_against_plain_answers(self):
        chance = random.Random(13)
        for _ in range(250):
            book = random_book(chance)
            expression = random_expression(chance, book, 40)
            rows = [(chance.choice(KINDS), chance.randint(-3, 3)) for _ in range(chance.randint(0, 5))]
            self.assertEqual(book.answer_of(expression, rows), plain_answer(book, expression, rows), expression)

    def test_words_within_cuts_and_stars(self):
        inners = ["three", ("plus", "sum", "many"), ("times", 3, "sum"), ("both", "sum", "many"),
                  ("cuts", "many", "sum"), ("star", "sum"), ("turned", ("cuts", "many", "sum")),
                  ("without", "out", "sum"), ("only", "even", "sum"), ("only", "four", "one")]
        for inner in inners:
            for expression in [("cuts", inner, "many"), ("cuts", "sum", inner), ("star", inner),
                               ("cuts", "one", ("star", inner)), ("turned", ("cuts", inner, "sum")),
                               ("without", "in", ("star", inner)), ("cuts", ("without", "in", inner), "many")]:
                for rows in all_rows(KINDS, (-1, 2), 4):
                    self.assertEqual(self.told(expression, rows), plain_answer(self.book, expression, rows))

    def test_great_numbers(self):
        rows = [("in", 10 ** 29)] * 40
        self.assertEqual(self.told("sum", rows), 4 * 10 ** 30)
        self.assertEqual(self.told(("both", "sum", "sum"), rows), 16 * 10 ** 60)
        self.assertEqual(self.told(("cuts", "sum", "one"), rows), 10 ** 29 * sum(range(41)))
        self.assertEqual(self.told("three", rows), 3 * 10 ** (29 * 80))

    def test_four_questions(self):
        book = Book({"sum": SUM}, {}, {"d": "sum", "b": ("times", 2, "sum"), "a": "sum", "c": ("turned", "sum")})
        self.assertEqual(book.answers([("in", 3)]), {"a": 3, "b": 6, "c": 3, "d": 3})
        self.assertEqual(list(book.answers(())), ["a", "b", "c", "d"])
        self.assertEqual(book.answer("b", (("in", 3),)), 6)
        self.assertEqual(book.answer(rows=[], name="b"), 0)
        self.assertEqual(book.answer_of(rows=[], expression="sum"), 0)

    def test_shared_names(self):
        book = Book({"in": SUM, "plus": ONE}, {"in": EVEN}, {"in": ("only", "in", ("without", "in", "in"))})
        rows = [("in", 1), ("out", 4), ("in", 1)]
        self.assertEqual(book.answer("in", rows), -4)
        self.assertEqual(book.answer_of("plus", rows), 1)
        self.assertEqual(book.answer_of(("plus", "plus", "plus"), rows), 2)


class SizeTest(unittest.TestCase):
    def test_bounds(self):
        book = book_of(a="sum")
        for expression, bound in [
                ("sum", 2), ("three", 4), (("plus", "sum", "three"), 6), (("cuts", "three", "three"), 8),
                (("times", 0, "three"), 4), (("turned", "three"), 4), (("without", "in", "three"), 4),
                (("both", "three", "three"), 16), (("star", "three"), 5), (("star", ("star", "sum")), 4),
                (("only", "even", "sum"), 4), (("only", "four", "three"), 16),
                (("both", ("only", "four", "three"), ("only", "four", "three")), 256)]:
            self.assertEqual(book.bound_of(expression), bound)
        self.assertEqual((book.bound("a"), book.bound(name="a"), book.bound_of(expression="sum")), (2, 2, 2))

    def test_degrees(self):
        book = book_of(a="sum", b="three")
        for expression, degree in [
                ("sum", 1), ("many", 0), ("three", 2), (("plus", "sum", "three"), 2), (("plus", "three", "many"), 2),
                (("cuts", "sum", "many"), 1), (("times", 0, "three"), 2), (("both", "sum", "three"), 3),
                (("both", "three", "three"), 4), (("star", "three"), 2), (("turned", "sum"), 1),
                (("without", "in", "three"), 2), (("only", "four", ("both", "sum", "sum")), 2)]:
            self.assertEqual(book.degree_of(expression), degree)
        self.assertEqual((book.degree("a"), book.degree(name="b"), book.degree_of(expression="sum")), (1, 2, 1))
        empty = Loop({"x": 5}, {"in": {"x": ()}}, (("x", 0, 1),))
        self.assertEqual(Book({"e": empty}, {}, {"a": "e"}).degree("a"), 0)

    def test_depth(self):
        book = book_of(a="sum")
        self.assertEqual(book.answer_of(nested(5), []), 1)
        self.assertEqual(book.bound_of(nested(5)), 2)
        for asked in (book.bound_of, book.degree_of, lambda expression: book.answer_of(expression, None)):
            with self.assertRaises(BadExpression) as caught:
                asked(nested(6))
            self.assertEqual(caught.exception.spot, (1, 1, 1, 1, 1))

    def test_bounds_that_are_let(self):
        self.assertEqual(book_of(a=("plus", "sum", "three")).bound("a"), 6)
        self.assertEqual(book_of(a=("plus", "sum", "three"), b=("star", "sum")).bound("b"), 3)
        for most, questions in [
                (6, {"a": ("plus", "three", ("star", "sum"))}), (6, {"a": "sum", "b": ("cuts", "three", "three")}),
                (9, {"a": ("plus", "sum", "three"), "b": "three"}), (9, {"a": "three", "b": "three", "c": "sum"})]:
            with self.assertRaises(TooMany) as caught:
                book_of(**questions)
            self.assertEqual(caught.exception.most, most)
        self.assertEqual(Book(LOOPS, {}, {"a": "three", "b": ("star", "sum"), "c": "sum"}).names, ("a", "b", "c"))


class BookTest(unittest.TestCase):
    def test_properties_and_copies(self):
        loops, patterns, questions = dict(LOOPS), {"four": FOUR, "even": EVEN}, {"z": "sum", "a": ("plus", "sum", "many")}
        book = Book(questions=questions, patterns=patterns, loops=loops)
        for given in (loops, patterns, questions, book.loops, book.patterns, book.questions):
            given.clear()
        self.assertEqual((book.loops, book.patterns), (LOOPS, PATTERNS))
        self.assertEqual(book.questions, {"a": ("plus", "sum", "many"), "z": "sum"})
        self.assertEqual([list(part) for part in (book.loops, book.patterns, book.questions)],
                         [["many", "one", "sum", "three"], ["even", "four"], ["a", "z"]])
        self.assertEqual((book.kinds, book.names), (KINDS, ("a", "z")))
        self.assertEqual(book.answers([("in", 1)]), {"a": 2, "z": 1})
        rows = [("in", 1), ("out", 2)]
        book.answer_of(("turned", ("without", "in", "sum")), rows)
        book.answers(rows)["a"] = 7
        self.assertEqual(rows, [("in", 1), ("out", 2)])

    def test_equality(self):
        book = book_of(a="sum", b="many")
        turned = Book({name: LOOPS[name] for name in sorted(LOOPS)}, PATTERNS, {"b": "many", "a": "sum"})
        self.assertTrue(book == turned)
        self.assertFalse(book != turned)
        self.assertFalse(book == book_of(a="sum"))
        self.assertFalse(book == book_of(a="sum", b="sum"))
        self.assertFalse(book == Book(LOOPS, {}, {"a": "sum", "b": "many"}))
        self.assertFalse(book == Book({**LOOPS, "one": SUM}, PATTERNS, {"a": "sum", "b": "many"}))
        for value in [*ODD_VALUES, (LOOPS, PATTERNS, {"a": "sum", "b": "many"})]:
            self.assertFalse(book == value)
            self.assertTrue(book != value)
        with self.assertRaises(TypeError):
            iter(book)

    def wrong(self, part, loops, patterns, questions):
        with self.assertRaises(BadBook) as caught:
            Book(loops, patterns, questions)
        self.assertEqual(caught.exception.part, part)

    def test_wrong_loops(self):
        other = Loop({"s": 0}, {"in": {"s": ()}}, ())
        for loops in [*ODD_VALUES, {"t": SUM}, {"A": SUM}, {1: SUM}, {"a": SUM, "b": other}, {"a": SUM, "b": None},
                      {"a": EVEN}, {name: SUM for name in "abcde"}, [("a", SUM)], SUM, {("a",): SUM}]:
            self.wrong("loops", loops, PATTERNS, {"a": "sum"})
            self.wrong("loops", loops, None, None)

    def test_wrong_patterns(self):
        other = Pattern({"in": [0]}, [0])
        for patterns in [*[value for value in ODD_VALUES if value != {}], {"t": EVEN}, {1: EVEN}, {"a": other},
                         {"a": SUM}, {name: EVEN for name in "abcd"}, EVEN]:
            self.wrong("patterns", LOOPS, patterns, {"a": "sum"})
            self.wrong("patterns", LOOPS, patterns, None)

    def test_wrong_questions(self):
        bad = [{"t": "sum"}, {1: "sum"}, {"a": "no"}, {"a": "even"}, {"a": nested(6)}, {"a": ["turned", "sum"]},
               {name: "one" for name in "abcde"}, {"a": "sum", "b": ("times", True, "sum")}, {"a": SUM},
               {"a": ("plus", "three", ("cuts", "three", "no"))}, {"a": "sum", "TOO": "sum"}]
        for questions in [*ODD_VALUES, *bad]:
            self.wrong("questions", LOOPS, PATTERNS, questions)
        self.wrong("questions", LOOPS, {}, {"a": ("only", "even", "sum")})

    def test_no_question(self):
        book = book_of(a="sum")
        for value in [value for value in ODD_VALUES if value != "a"] + ["sum", "b", book, ("a",)]:
            for asked in (book.bound, book.degree, lambda name: book.answer(name, None)):
                with self.assertRaises(NoQuestion) as caught:
                    asked(value)
                self.assertIs(caught.exception.name, value)

    def test_bad_rows(self):
        book = book_of(a="sum")
        for asked in (lambda rows: book.answer("a", rows), book.answers, lambda rows: book.answer_of("one", rows)):
            for at, rows in [(None, None), (None, "in"), (None, {"in": 1}), (0, [["in", 1]]), (0, [("in", True)]),
                             (0, [("sum", 1)]), (1, (("in", 1), ("out",))), (2, [("in", 1), ("out", 1), 5, None])]:
                with self.assertRaises(BadRows) as caught:
                    asked(rows)
                self.assertEqual(caught.exception.at, at)


class BadExpressionTest(unittest.TestCase):
    def test_spots(self):
        book = book_of(a="sum")
        six = nested(6)
        for expression, spot in [
                (None, ()), ("no", ()), ("even", ()), ((), ()), (("plus",), ()), (("plus", "sum"), ()),
                (("plus", "sum", "sum", "sum"), ()), (["plus", "sum", "sum"], ()), (("no", "sum"), ()),
                ((["plus"], "sum", "sum"), ()), ((None, "sum", "sum"), ()), ((("plus",), "sum", "sum"), ()),
                (("times", 10, "sum"), ()), (("times", -10, "sum"), ()), (("times", True, "sum"), ()),
                (("times", "1", "sum"), ()), (("times", None, None), ()), (("times", 1), ()),
                (("star", "sum", "sum"), ()), (("star", 3), (1,)), (("turned", ()), (1,)),
                (("without", "no", "sum"), ()), (("without", ["in"], "sum"), ()), (("without", "in", 7), (2,)),
                (("without", "sum", "no"), ()), (("only", "sum", "sum"), ()), (("only", "even", "even"), (2,)),
                (("only", {}, "sum"), ()), (("plus", "no", "none"), (1,)), (("plus", "sum", "none"), (2,)),
                (("plus", "sum", ("times", 99, "sum")), (2,)),
                (("plus", ("times", 99, "no"), "no"), (1,)), (("plus", ("times", 9, "no"), None), (1, 2)),
                (("cuts", ("both", "sum", ("star", True)), ["sum"]), (1, 2, 1)),
                (("cuts", ("both", "sum", ("star", "sum")), ["sum"]), (2,)),
                (six, (1, 1, 1, 1, 1)), (("plus", six, 3), (1, 1, 1, 1, 1)), (("plus", "sum", nested(5)), (2, 1, 1, 1, 1)),
                (("turned", ("turned", ("turned", ("turned", ("turned", None))))), (1, 1, 1, 1, 1)),
                (("turned", ("turned", ("turned", ("turned", None)))), (1, 1, 1, 1))]:
            for asked in (book.bound_of, book.degree_of, lambda value: book.answer_of(value, None)):
                with self.assertRaises(BadExpression) as caught:
                    asked(expression)
                self.assertEqual(caught.exception.spot, spot)
                self.assertIsInstance(caught.exception.spot, tuple)

    def test_any_value(self):
        book = book_of(a="sum")
        for value in [*ODD_VALUES, book]:
            with self.assertRaises(BadExpression) as caught:
                book.answer_of(value, [])
            self.assertEqual(caught.exception.spot, ())


if __name__ == "__main__":
    unittest.main()
