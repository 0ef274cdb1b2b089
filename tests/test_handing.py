"""Point 32: hand-overs, what is told and joined, bars."""

import copy
import random
import unittest

from stillknown.books import Book
from stillknown.errors import BadBook, BadNumbers, BadPaper, BadReadings, BadRows, TooMany
from stillknown.handing import (
    bar, free_readings, hand_over, handed, is_bar, is_hand_over, joined, told_answers, told_at,
)
from stillknown.loops import Loop
from stillknown.pieces import degree_of_book, forms_of, spanning_pieces
from stillknown.spaces import book_size
from stillknown.tables import free_indexes
from tests.books import COUNT, FLAT, LARGE, LASTS, NOTHING, RICH, SUM, TWO
from tests.plain import (
    ODD_VALUES, check_any_values, determinant, plain_told, random_book, random_questions, random_reading, random_rows,
)

EMPTY = ([], [])
# Sum and number of rows: both are handed on, both are added.
PAPER = ((("a", EMPTY), ("b", ((), []))),
         (((0, 1, 0), (1, 0, 0), (0, 0, 0)), ((0, 0, 1), (0, 0, 0), (1, 0, 0))),
         ((0, 1, 0), (0, 0, 1)), 1)


def over_and_over(paper, times):
    """The same paper with everything so many times."""
    readings, joins, answers, over = paper
    return (readings, tuple(tuple(tuple(times * x for x in line) for line in table) for table in joins),
            tuple(tuple(times * x for x in line) for line in answers), times * over)


def with_more(paper, reading, join, many):
    """PAPER with the same reading more often: each joins as the first one does."""
    readings, joins, answers, over = paper
    size = len(readings) + many + 1
    wide = [tuple(tuple(list(line) + [0] * many) for line in table) + ((0,) * size,) * many for table in joins]
    more = [[[0] * size for _ in range(size)] for _ in range(many)]
    for at, table in enumerate(more):
        table[0][len(readings) + 1 + at] = table[len(readings) + 1 + at][0] = 1
    wide += [tuple(tuple(line) for line in table) for table in more]
    return (readings + (reading,) * many, tuple(wide), tuple(tuple(list(line) + [0] * many) for line in answers), over)


class HandedTest(unittest.TestCase):
    def test_example(self):
        total = Loop({"s": 0}, {"add": {"s": (("", 1, 1), ("s", 0, 1))}}, (("s", 0, 1),))
        count = Loop({"n": 0}, {"add": {"n": (("", 0, 1), ("n", 0, 1))}}, (("n", 0, 1),))
        book = Book({"sum": total, "many": count}, {}, {"a": "sum", "b": ("cuts", "many", "sum")})
        self.assertEqual(handed(book), 5)

    def test_one_less_than_the_size(self):
        chance = random.Random(32)
        for book in [TWO, RICH, LASTS, FLAT, NOTHING, LARGE] + [random_questions(chance, random_book(chance))
                                                               for _ in range(30)]:
            self.assertEqual(handed(book), book_size(book) - 1)
            alone = [handed(Book(book.loops, book.patterns, {name: book.questions[name]})) for name in book.names]
            self.assertLessEqual(handed(book), sum(alone))
        self.assertEqual(handed(book=TWO), 2)

    def test_too_many(self):
        for asked in (hand_over, bar):
            with self.assertRaises(TooMany) as caught:
                asked(LARGE)
            self.assertEqual(caught.exception.most, 12)

    def test_twelve_and_thirteen(self):
        found = {}
        chance = random.Random(12)
        while len(found) < 2:
            book = random_questions(chance, random_book(chance), 5)
            if handed(book) in (12, 13):
                found[handed(book)] = book
        self.assertTrue(is_hand_over(found[12], hand_over(found[12])))
        self.assertTrue(is_bar(found[12], bar(found[12])))
        self.assertRaises(TooMany, hand_over, found[13])
        self.assertRaises(TooMany, bar, found[13])

    def test_hand_over(self):
        chance = random.Random(33)
        books = [TWO, RICH, LASTS, FLAT, NOTHING] + [random_questions(chance, random_book(chance), 4) for _ in range(30)]
        for book in books:
            if handed(book) > 12:
                continue
            paper = hand_over(book)
            readings, joins, answers, over = paper
            self.assertEqual(paper, hand_over(book))
            self.assertEqual((len(readings), len(joins), len(answers)), (handed(book), handed(book), len(book.names)))
            self.assertTrue(all(isinstance(part, tuple) for part in (readings, joins, answers)))
            self.assertTrue(all(isinstance(rows, list) for _, where in readings for rows in where))
            self.assertGreaterEqual(over, 1)
            self.assertIs(is_hand_over(book, paper), True)
            for _ in range(5):
                one, other = random_rows(chance, book.kinds), random_rows(chance, book.kinds)
                self.assert_told(book, paper, one, other)

    def assert_told(self, book, paper, one, other):
        first, second = [tuple(plain_told(book, reading, rows) for reading in paper[0]) for rows in (one, other)]
        self.assertEqual(told_at(book, paper[0], one), first)
        both = tuple(plain_told(book, reading, one + other) for reading in paper[0])
        self.assertEqual(joined(paper, first, second), both)
        answers = tuple(plain_told(book, (name, EMPTY), one + other) for name in book.names)
        self.assertEqual(told_answers(paper, both), answers)

    def test_nothing_is_handed_on(self):
        for book, answers in ((NOTHING, ((0,), (0,))), (FLAT, ((0,), (1,)))):
            self.assertEqual(hand_over(book), ((), (), answers, 1))
            self.assertEqual(bar(book), ((), ([],)))
            self.assertIs(is_hand_over(book, ((), (), answers, 1)), True)
            self.assertIs(is_bar(book, ((), ([("in", 3)],))), True)
        self.assertIs(is_hand_over(FLAT, ((), (), ((0,), (0,)), 1)), False)
        self.assertIs(is_hand_over(FLAT, ((), (), ((0,), (3,)), 3)), True)
        self.assertIs(is_hand_over(FLAT, ((), (), ((0,), (3,)), 2)), False)
        self.assertEqual(told_answers(hand_over(FLAT), ()), (0, 1))
        self.assertEqual(joined(hand_over(FLAT), (), ()), ())

    def test_new_at_every_depth(self):
        paper = hand_over(RICH)
        kept = copy.deepcopy(paper)
        for _, (ahead, behind) in paper[0]:
            ahead.append(1)
            behind.append(2)
        self.assertEqual(hand_over(RICH), kept)
        shown = bar(RICH)
        kept = copy.deepcopy(shown)
        for piece in shown[1]:
            piece.append(1)
        for _, (ahead, behind) in shown[0]:
            ahead.append(1)
            behind.append(2)
        self.assertEqual(bar(RICH), kept)
        self.assertTrue(all(ahead.count(1) == 1 for _, (ahead, _) in shown[0]))

    def test_what_is_no_book(self):
        for asked in (handed, hand_over, bar, lambda book: is_hand_over(book, 1), lambda book: is_bar(book, 1),
                      lambda book: told_at(book, None, None)):
            for value in ODD_VALUES:
                self.assertRaises(BadBook, asked, value)


class JudgedTest(unittest.TestCase):
    def test_any_value(self):
        readings, joins, answers, over = PAPER
        good = [PAPER, over_and_over(PAPER, 7), hand_over(TWO)]
        check_any_values(self, lambda value: is_hand_over(TWO, value), good)
        wrong = [
            list(PAPER), PAPER[:3], PAPER + (1,), (list(readings), joins, answers, over),
            (readings, list(joins), answers, over), (readings, joins, list(answers), over),
            (readings, joins, answers, 0), (readings, joins, answers, -1), (readings, joins, answers, True),
            (readings, joins, answers, 2), (readings, joins[:1], answers, over), (readings, joins, answers[:1], over),
            (readings, joins, answers + ((0, 0, 0),), over), (readings[:1], joins, answers, over),
            (readings[::-1], joins, answers, over), (readings, joins, answers[::-1], over),
            (readings, (joins[0], ((0, 0, 1), (0, 0, 0), (1, 0, 1))), answers, over),
            (readings, (joins[0], [(0, 0, 1), (0, 0, 0), (1, 0, 0)]), answers, over),
            (readings, (joins[0], ((0, 0, 1), [0, 0, 0], (1, 0, 0))), answers, over),
            (readings, (joins[0], ((0, 0, 1), (0, 0, 0), (1, 0, False))), answers, over),
            (readings, (joins[0], ((0, 0, 1), (0, 0, 0))), answers, over),
            (readings, joins, ((0, 1, 0), (0, 0, True)), over), (readings, joins, ((0, 1, 0), [0, 0, 1]), over),
            (readings, joins, ((0, 1, 0), (1, 0, 1)), over),
            ((("a", EMPTY), ("c", EMPTY)), joins, answers, over), ((("a", EMPTY), ["b", EMPTY]), joins, answers, over),
            ((("a", EMPTY), ("b", [[], []])), joins, answers, over), ((("a", EMPTY), ("b", ([], [1]))), joins, answers, over),
            ((("a", EMPTY), ("b", ([], [("no", 1)]))), joins, answers, over),
            # One row more ahead: then the number of rows is one less than what is told.
            ((("a", EMPTY), ("b", ([("in", 1)], []))), joins, answers, over), TWO]
        for value in wrong:
            self.assertIs(is_hand_over(TWO, value), False, value)
        self.assertIs(is_hand_over(book=TWO, thing=PAPER), True)

    def test_another_reading(self):
        readings, joins, answers, over = PAPER
        # The number of rows with one more: x of both is x of the one and x of the other less 1.
        shifted = ((("a", EMPTY), ("b", ([("in", 0)], []))), (joins[0], ((-1, 0, 1), (0, 0, 0), (1, 0, 0))),
                   ((0, 1, 0), (-1, 0, 1)), 1)
        self.assertIs(is_hand_over(TWO, shifted), True)
        self.assertIs(is_hand_over(TWO, over_and_over(shifted, 3)), True)

    def test_sixteen_and_seventeen(self):
        for many in (1, 14, 15):
            paper = with_more(PAPER, ("b", EMPTY), None, many)
            self.assertIs(is_hand_over(TWO, paper), many <= 14, many)
        paper = with_more(PAPER, ("b", EMPTY), None, 15)
        # What has the form of a hand-over may be joined all the same.
        self.assertEqual(joined(paper, (1,) + (2,) * 16, (5,) + (7,) * 16), (6,) + (9,) * 16)

    def test_wrong_joins_of_random_books(self):
        chance = random.Random(34)
        for _ in range(25):
            book = random_questions(chance, random_book(chance), 3)
            if not 1 <= handed(book) <= 12:
                continue
            readings, joins, answers, over = hand_over(book)
            k, i, j = chance.randrange(len(joins)), chance.randrange(len(joins) + 1), chance.randrange(len(joins) + 1)
            tables = [[list(line) for line in table] for table in joins]
            tables[k][i][j] += chance.choice([-1, 1])
            wrong = tuple(tuple(tuple(line) for line in table) for table in tables)
            self.assertIs(is_hand_over(book, (readings, wrong, answers, over)), False)
            lines = [list(line) for line in answers]
            lines[chance.randrange(len(lines))][i] += 1
            self.assertIs(is_hand_over(book, (readings, joins, tuple(tuple(line) for line in lines), over)), False)


class ToldTest(unittest.TestCase):
    def test_told_at(self):
        chance = random.Random(35)
        for _ in range(60):
            book = random_questions(chance, random_book(chance), 4)
            readings = [random_reading(chance, book) for _ in range(3)]
            piece = random_rows(chance, book.kinds)
            wanted = tuple(plain_told(book, reading, piece) for reading in readings)
            self.assertEqual(told_at(book, readings, piece), wanted)
            self.assertEqual(told_at(book=book, piece=tuple(piece), readings=tuple(readings)), wanted)
        self.assertEqual(told_at(TWO, [], []), ())
        self.assertEqual(told_at(TWO, [("a", EMPTY)] * 30, [("in", 10 ** 29)]), (10 ** 29,) * 30)

    def test_bad_readings(self):
        good = ("a", EMPTY)
        for value in ODD_VALUES:
            if isinstance(value, (list, tuple)):
                continue
            for rows in ([], None):
                with self.assertRaises(BadReadings) as caught:
                    told_at(TWO, value, rows)
                self.assertIsNone(caught.exception.at)
        bad = [*ODD_VALUES, ["a", EMPTY], ("c", EMPTY), ("a", [[], []]), ("a", ([], [("in", True)])), ("a", ([],)),
               ("a", EMPTY, 1), ("sum", EMPTY), (None, EMPTY), ("a", (None, [])), ("a", ([("no", 1)], []))]
        for value in bad:
            with self.assertRaises(BadReadings) as caught:
                told_at(TWO, [good, good, value, 7], None)
            self.assertEqual(caught.exception.at, 2)
        with self.assertRaises(BadRows) as caught:
            told_at(TWO, [good], [("in", 1), ("in", None)])
        self.assertEqual(caught.exception.at, 1)
        with self.assertRaises(BadRows) as caught:
            told_at(TWO, [good], "ab")
        self.assertIsNone(caught.exception.at)

    def test_papers_of_any_names(self):
        strange = ((("zz", ([("some", 3)], ())),), (((0, 1), (1, 0)),), ((0, 1), (1, 1), (0, 0), (2, 0)), 1)
        self.assertEqual(joined(strange, (3,), (4,)), (7,))
        self.assertEqual(told_answers(strange, (3,)), (3, 4, 0, 2))
        self.assertEqual(told_answers(paper=strange, one=(3,)), (3, 4, 0, 2))
        self.assertEqual(joined(paper=strange, other=(3,), one=(1,)), (4,))
        # Kinds and questions of all sorts in one paper.
        mixed = (tuple((name, ([("k" + name, 1)], [])) for name in "abcde"), (((0,) * 6,) * 6,) * 5, ((1,) * 6,), 1)
        self.assertEqual(told_answers(mixed, (1, 2, 3, 4, 5)), (16,))

    def test_bad_papers(self):
        readings, joins, answers, over = PAPER
        bad = [*ODD_VALUES, list(PAPER), PAPER[:3], (readings, joins, (), over), (readings, joins, ((0, 0, 0),) * 5, over),
               (readings, joins, answers, 0), (readings, joins, answers, True), (readings, joins, ((0, 1),) * 2, over),
               (readings, joins[:1], answers, over), (list(readings), joins, answers, over), (1, joins, answers, over),
               ((("t", EMPTY), ("b", EMPTY)), joins, answers, over), ((("A", EMPTY), ("b", EMPTY)), joins, answers, over),
               ((("a", ([("t", 1)], [])), ("b", EMPTY)), joins, answers, over),
               ((("a", ([("in", True)], [])), ("b", EMPTY)), joins, answers, over),
               ((("a", ([["in", 1]], [])), ("b", EMPTY)), joins, answers, over),
               ((("a", [[], []]), ("b", EMPTY)), joins, answers, over), ((1, 2), joins, answers, over),
               ((["a", EMPTY], ("b", EMPTY)), joins, answers, over), ((("a", EMPTY, 1), ("b", EMPTY)), joins, answers, over),
               ((("a", ({}, [])), ("b", EMPTY)), joins, answers, over), ((("a", ([], "")), ("b", EMPTY)), joins, answers, over),
               ((("a", ([], None)), ("b", EMPTY)), joins, answers, over),
               ((("a", ([], [("in", True)])), ("b", EMPTY)), joins, answers, over),
               (readings, joins, ((0, 1, 0), (0, 0, None)), over), (readings, (joins[0], None), answers, over)]
        for value in bad:
            self.assertRaises(BadPaper, joined, value, None, None)
            self.assertRaises(BadPaper, told_answers, value, None)

    def test_bad_numbers(self):
        for value in [*ODD_VALUES, (1,), (1, 2, 3), [1, 2], (1, True), (1, None)]:
            for other in ((1, 2), value):
                self.assertRaises(BadNumbers, joined, PAPER, value, other)
            self.assertRaises(BadNumbers, joined, PAPER, (1, 2), value)
            self.assertRaises(BadNumbers, told_answers, PAPER, value)
        halves = (PAPER[0], PAPER[1], PAPER[2], 2)
        self.assertRaises(BadNumbers, joined, halves, (1, 2), (2, 2))
        self.assertEqual(joined(halves, (1, -2), (-2 + 3, 4)), (1, 1))
        self.assertRaises(BadNumbers, told_answers, halves, (2, 3))
        self.assertEqual(told_answers(halves, (2, -4)), (1, -2))


class BarTest(unittest.TestCase):
    def test_bar(self):
        chance = random.Random(36)
        books = [TWO, RICH, LASTS, FLAT, NOTHING] + [random_questions(chance, random_book(chance), 3) for _ in range(20)]
        for book in books:
            if handed(book) > 8:
                continue
            shown = bar(book)
            readings, pieces = shown
            self.assertEqual(shown, bar(book))
            self.assertEqual((len(readings), len(pieces)), (handed(book), handed(book) + 1))
            self.assertTrue(isinstance(readings, tuple) and isinstance(pieces, tuple))
            self.assertTrue(all(isinstance(piece, list) for piece in pieces))
            table = [[1] + [plain_told(book, reading, piece) for reading in readings] for piece in pieces]
            self.assertNotEqual(determinant(table), 0)
            self.assertIs(is_bar(book, shown), True)

    def test_any_value(self):
        readings = (("a", EMPTY), ("b", EMPTY))
        pieces = ([], [("in", 1)], (("out", 5),))
        good = [(readings, pieces), (readings[:1], pieces[:2]), ((), ([],)), ((), ([("in", 3)],)),
                (readings[::-1], pieces), ((("a", ([("in", 7)], [])),), pieces[:2])]
        check_any_values(self, lambda value: is_bar(TWO, value), good)
        wrong = [[readings, pieces], (list(readings), pieces), (readings, list(pieces)), (readings, pieces[:2]),
                 (readings[:1], pieces), (readings, pieces + ([],)), ((), ()), ((), ([], [])),
                 # A piece twice; pieces that lie on one line; a reading twice.
                 (readings, ([], [("in", 1)], [("in", 1)])), (readings, ([], [("in", 1)], [("in", 2), ("out", 0)])),
                 ((readings[0],) * 2, pieces), (readings, ([], [("in", 1)], [("in", True)])),
                 (readings, ([], [("in", 1)], [("no", 1)])), (readings, ([], [("in", 1)], None)),
                 ((("a", EMPTY), ("c", EMPTY)), pieces), (readings, pieces, 1), ((1, 2), pieces), TWO]
        for value in wrong:
            self.assertIs(is_bar(TWO, value), False, value)
        self.assertIs(is_bar(thing=(readings, pieces), book=TWO), True)

    def test_more_than_is_needed_or_let(self):
        # No bar has more readings than are handed on, and none more than 16 is judged.
        readings, pieces = bar(RICH)
        self.assertIs(is_bar(RICH, (readings + (("a", EMPTY),), pieces + ([("in", 9)],))), False)
        self.assertEqual(handed(LARGE), 18)
        forms = forms_of(LARGE)
        spans = spanning_pieces(forms, degree_of_book(LARGE))
        wide = tuple(reading for reading, _ in free_readings(forms, degree_of_book(LARGE), spans))
        for many in (16, 17):
            told = [(1,) + told_at(LARGE, wide[:many], rows) for rows, _ in spans]
            chosen = tuple(list(spans[at][0]) for at in free_indexes(told))
            self.assertEqual(len(chosen), many + 1)
            self.assertIs(is_bar(LARGE, (wide[:many], chosen)), many == 16)


if __name__ == "__main__":
    unittest.main()
