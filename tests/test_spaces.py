"""Points 30 and 31: pieces, readings, mixes, the size of a book, pieces that span."""

import copy
import random
import unittest
from math import gcd

from stillknown.errors import BadBook, BadMix, BadPieces
from stillknown.spaces import are_one, book_size, parted_by, spanning, written
from tests.books import FLAT, LARGE, LASTS, NOTHING, RICH, TWO
from tests.plain import (
    ODD_VALUES, all_rows, plain_readings, plain_told, plain_told_of_mix, random_book, random_mix, random_questions,
    random_rows, rank_of,
)

BOOKS = (TWO, RICH, LASTS, FLAT, NOTHING, LARGE)
MIX = [(2, [("in", 3)]), (-1, [])]


def told_rows(book, pieces, below, numbers=(0, 1)):
    """For each piece 1 and what all readings with short surroundings tell of it."""
    readings = plain_readings(book, below, numbers)
    return [[1] + [plain_told(book, reading, piece) for reading in readings] for piece in pieces]


class SizeTest(unittest.TestCase):
    def test_known_sizes(self):
        # 1; 1 and the sum; the sum and how many; the sum, how many, and the products that go over a cut.
        self.assertEqual([book_size(book) for book in (NOTHING, FLAT, TWO)], [1, 1, 3])
        self.assertEqual(book_size(RICH), 6)
        # The last number and whether there was one, beside how many and its square.
        self.assertEqual(book_size(LASTS), 5)
        self.assertEqual(book_size(book=LARGE), 19)

    def test_against_the_rank_of_plain_tables(self):
        chance = random.Random(31)
        for _ in range(25):
            book = random_questions(chance, random_book(chance, ("in",), (0, 1)), 3, 2)
            if max(book.degree(name) for name in book.names) > 2:
                continue
            numbers = range(max(book.degree(name) for name in book.names) + 1)
            pieces = list(all_rows(book.kinds, numbers, 4))
            plain = rank_of(told_rows(book, pieces, 3, numbers))
            self.assertLessEqual(plain, book_size(book))
            if book_size(book) <= 6:
                self.assertEqual(plain, book_size(book), book.questions)

    def test_spanning(self):
        chance = random.Random(32)
        books = [*BOOKS[:5]] + [random_questions(chance, random_book(chance), 3, 2) for _ in range(15)]
        for book in books:
            pieces = spanning(book)
            self.assertIsInstance(pieces, list)
            self.assertTrue(all(isinstance(piece, list) for piece in pieces))
            self.assertEqual(len(pieces), book_size(book))
            self.assertLessEqual(len(pieces), 1 + sum(book.bound(name) ** 2 for name in book.names))
            self.assertEqual(pieces, spanning(book))
            self.assertLessEqual(rank_of(told_rows(book, pieces, 2)), len(pieces))
            for _ in range(3):
                mix = random_mix(chance, book)
                over, *numbers = written(book, pieces, mix)
                self.assert_written(book, pieces, mix, over, numbers, chance)

    def assert_written(self, book, pieces, mix, over, numbers, chance):
        self.assertGreaterEqual(over, 1)
        self.assertEqual(len(numbers), len(pieces))
        self.assertEqual(gcd(over, *numbers), 1)
        self.assertEqual(over * sum(coefficient for coefficient, _ in mix), sum(numbers))
        for _ in range(20):
            reading = chance.choice(book.names), (random_rows(chance, book.kinds, 3), random_rows(chance, book.kinds, 3))
            told = sum(number * plain_told(book, reading, piece) for number, piece in zip(numbers, pieces))
            self.assertEqual(over * plain_told_of_mix(book, reading, mix), told)

    def test_spanning_is_new(self):
        pieces = spanning(TWO)
        again = copy.deepcopy(pieces)
        pieces[0].append(("in", 3))
        pieces.clear()
        self.assertEqual(spanning(TWO), again)

    def test_what_is_no_book(self):
        for asked in (book_size, spanning, lambda book: are_one(book, 1, 1), lambda book: parted_by(book, 1, 1),
                      lambda book: written(book, 1, 1)):
            for value in ODD_VALUES:
                with self.assertRaises(BadBook) as caught:
                    asked(value)
                self.assertIsNone(caught.exception.part)


class MixTest(unittest.TestCase):
    def test_are_one(self):
        for book, one, other, same in [
                (TWO, [(1, [("in", 3)])], [(1, [("out", -3)])], True),
                (TWO, [(1, [("in", 3)])], [(1, [("in", 4)])], False),
                (TWO, [(1, [("in", 3)])], [(2, [("in", 3)])], False),
                # A piece twice, and pairs that cancel one another.
                (TWO, [(1, [("in", 3)]), (1, [("in", 3)])], [(2, [("in", 3)])], True),
                (TWO, [(1, [("in", 3)]), (2, []), (-2, [])], [(1, [("in", 3)])], True),
                (TWO, [(1, [("in", 3)]), (-1, [("in", 3)])], [(4, []), (-4, [])], True),
                (TWO, ((2, (("in", 3), ("out", 1))),), [(1, [("in", 4), ("in", 0)]), (1, [("in", 0), ("in", 0)])], True),
                (LASTS, [(1, [("in", 3)])], [(1, [("in", 3), ("out", 1)])], False),
                (FLAT, [(3, [("in", 3)])], [(1, [("in", 3), ("out", 1)]), (2, [])], True),
                (NOTHING, [(3, [("in", 3)])], [(2, [])], False)]:
            self.assertIs(are_one(book, one, other), same)
            self.assertIs(are_one(book=book, other=one, one=other), same)

    def test_far_numbers(self):
        far = 10 ** 29
        self.assertIs(are_one(RICH, [(far, [("in", far)] * 40)], [(far, [("in", far)] * 39 + [("out", -far)])]), True)
        self.assertIs(are_one(RICH, [(far, [("in", far)] * 40)], [(far, [("in", far)] * 39 + [("out", 1 - far)])]), False)

    def test_parted_by(self):
        self.assertIsNone(parted_by(TWO, MIX, MIX + [(1, []), (-1, [])]))
        self.assertEqual(parted_by(TWO, MIX, [(2, [])]), "sum")
        self.assertEqual(parted_by(NOTHING, [(2, [])], [(1, [("in", 3)])]), "sum")
        chance = random.Random(33)
        told = 0
        for _ in range(150):
            book = random_questions(chance, random_book(chance), 4)
            one, other = random_mix(chance, book), random_mix(chance, book)
            left = sum(pair[0] for pair in one) - sum(pair[0] for pair in other)
            if left != 0 and chance.random() < 0.8:
                other.append((left, random_rows(chance, book.kinds)))
            before = copy.deepcopy((one, other))
            found = parted_by(book, one, other)
            self.assertEqual((one, other), before)
            self.assertEqual(found, parted_by(book=book, one=one, other=other))
            self.assertIs(are_one(book, one, other), found is None)
            if sum(pair[0] for pair in one) != sum(pair[0] for pair in other):
                self.assertEqual(found, "sum")
            elif found is None:
                for reading in plain_readings(book, 2, (0, 1, 2)):
                    self.assertEqual(plain_told_of_mix(book, reading, one), plain_told_of_mix(book, reading, other))
            else:
                told += 1
                name, (ahead, behind) = found
                self.assertTrue(isinstance(ahead, list) and isinstance(behind, list))
                self.assertNotEqual(plain_told_of_mix(book, found, one), plain_told_of_mix(book, found, other))
        self.assertGreater(told, 40)

    def test_bad_mixes(self):
        bad = [*ODD_VALUES, [(0, [])], [(True, [])], [(1, [("in", True)])], [(1, [("no", 1)])], [[1, []]], [(1, None)],
               [(1, [["in", 1]])], [(1, []), None], [(1, []), (1,)], [(1, [], [])], {(1, ()): 2}, TWO]
        for value in bad:
            for asked in (are_one, parted_by):
                for other in (MIX, value):
                    with self.assertRaises(BadMix) as caught:
                        asked(TWO, value, other)
                    self.assertEqual(caught.exception.part, "one")
                with self.assertRaises(BadMix) as caught:
                    asked(TWO, MIX, value)
                self.assertEqual(caught.exception.part, "other")
            with self.assertRaises(BadMix) as caught:
                written(TWO, spanning(TWO), value)
            self.assertEqual(caught.exception.part, "mix")


class WrittenTest(unittest.TestCase):
    def test_ordinary(self):
        pieces = [[], [("in", 1)], [("in", 0)]]
        self.assertEqual(written(TWO, pieces, [(1, [("in", 5)])]), (1, 0, 5, -4))
        self.assertEqual(written(TWO, pieces, [(1, []), (-1, [])]), (1, 0, 0, 0))
        pieces = ((), (("in", 2),), [("in", 0)])
        self.assertEqual(written(TWO, pieces, [(1, [("in", 5)])]), (2, 0, 5, -3))
        self.assertEqual(written(TWO, pieces, [(2, [("in", 5)])]), (1, 0, 5, -3))
        self.assertEqual(written(mix=[(2, [("in", 5)])], book=TWO, pieces=pieces), (1, 0, 5, -3))
        self.assertEqual(written(NOTHING, [[("in", 7)]], [(2, []), (3, [("out", 1)])]), (1, 5))
        # What cancels in a mix without a sum is one with no times anything.
        self.assertEqual(written(NOTHING, [[("in", 7)]], [(2, []), (-2, [("out", 1)])]), (1, 0))

    def test_bad_pieces(self):
        good = [[], [("in", 1)], [("in", 0)]]
        bad = [*ODD_VALUES, good[:2], good + [[]], [[], [("in", 1)], [("in", True)]], [[], [("in", 1)], [("in", 1)]],
               [[], [("in", 1)], [("in", 0), ("in", 2), ("out", 0), ("no", 1)]], [[], [("in", 1)], None],
               # The third one hangs on the others: twice the second one, less the first one.
               [[], [("in", 1)], [("in", 2), ("out", 0)]], {0: [], 1: [("in", 1)], 2: [("in", 0)]}]
        for value in bad:
            for mix in (MIX, None):
                with self.assertRaises(BadPieces):
                    written(TWO, value, mix)
        with self.assertRaises(BadPieces):
            written(NOTHING, [], MIX)


if __name__ == "__main__":
    unittest.main()
