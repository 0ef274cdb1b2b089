"""Points 94 and 95: cheapest trees of ties, crossings that grow without end."""

import random
import unittest
from itertools import combinations

from stillknown.books import Book
from stillknown.errors import BadBook, BadLayout, BadNumber, BadTie, BadTies, TooMany
from stillknown.handing import handed
from stillknown.links import crossing
from stillknown.trees import best_trees, grows, round_bar, without_tie
from tests.books import COUNT, FLAT, KINDS, LARGE, LASTS, NOTHING, RICH, SQUARE, SUM, TWO, same_loop
from tests.graphs import (
    NAMES, beyond, joined_rows, plain_branches, plain_of, random_layout, small_book,
)
from tests.plain import ODD_VALUES, determinant, random_book, random_questions
from tests.test_links import BAD_LAYOUTS, NINE, TEN

RING = [("a", "b"), ("b", "c"), ("a", "c")]


def plain_best(book, layout, ties):
    """All choices of ties, all roots, all branches."""
    workers = sorted({worker for tie in ties for worker in tie})
    sums, found = {}, {}

    def crossed(branch):
        lot = tuple(worker for worker in branch if worker in layout)
        if lot not in found:
            found[lot] = crossing(book, layout, lot)
        return found[lot]

    for links in combinations(sorted(ties), len(workers) - 1):
        if beyond(links, None, workers[0]) == workers:
            sums[links] = min(sum(crossed(branch) for branch in plain_branches(links, root).values()) for root in workers)
    least = min(sums.values())
    return least, sorted(links for links in sums if sums[links] == least)


def random_ties(chance, workers):
    """Ties made at random that join all workers."""
    pairs = list(combinations(sorted(workers), 2))
    while True:
        ties = chance.sample(pairs, chance.randint(1, min(9, len(pairs))))
        if len({worker for tie in ties for worker in tie}) == len(workers) and \
                beyond(ties, None, workers[0]) == sorted(workers):
            return ties


class TreesTest(unittest.TestCase):
    def test_known(self):
        self.assertEqual(best_trees(RICH, ("a", "b", "a"), RING),
                         (5, [(("a", "b"), ("a", "c")), (("a", "b"), ("b", "c"))]))
        self.assertEqual(without_tie(RICH, ("a", "b", "a"), RING, ("a", "b")), (10, [(("a", "c"), ("b", "c"))]))
        self.assertEqual(best_trees(ties=tuple(RING[:1]), layout=("a", "b"), book=RICH), (3, [(("a", "b"),)]))
        self.assertIsNone(without_tie(gone=("a", "b"), ties=RING[:1], layout=("a", "b"), book=RICH))
        self.assertIsNone(without_tie(RICH, ("a", "b"), RING[:2], ("a", "b")))
        self.assertIsNone(without_tie(RICH, ("a", "b"), RING[:2], ("b", "c")))
        self.assertIsNone(without_tie(RICH, ("a",), [("a", "b"), ("b", "c"), ("c", "d")], ("b", "c")))

    def test_one_worker_alone(self):
        for layout in (("a",), ("c", "c", "c")):
            self.assertEqual(best_trees(RICH, layout, RING), (0, list(combinations(sorted(RING), 2))))

    def test_against_all_choices(self):
        chance = random.Random(941)
        several = gone_for_good = 0
        for _ in range(24):
            book = small_book(chance, 6)
            workers = chance.sample(NAMES, chance.randint(2, 6))
            layout, ties = random_layout(chance, workers), random_ties(chance, workers)
            passed = list(ties)
            found = best_trees(book, layout, ties)
            self.assertEqual(found, plain_best(book, layout, ties))
            self.assertEqual(found, best_trees(book, layout, tuple(reversed(ties))))
            several += len(found[1]) > 1
            for gone in ties:
                left = [tie for tie in ties if tie != gone]
                joins = left and beyond(left, None, workers[0]) == sorted(workers)
                gone_for_good += not joins
                self.assertEqual(without_tie(book, layout, ties, gone),
                                 plain_best(book, layout, left) if joins else None)
            self.assertEqual(ties, passed)
            found[1].clear()
            self.assertTrue(best_trees(book, layout, ties)[1])
        self.assertTrue(several and gone_for_good)

    def test_six_workers(self):
        ties = [("a", "b"), ("b", "c"), ("c", "d"), ("d", "e"), ("e", "f"), ("a", "f"), ("a", "c"), ("a", "d"), ("b", "e")]
        layout = ("f", "a", "c", "a")
        self.assertEqual(best_trees(NINE, layout, ties), plain_best(NINE, layout, ties))

    def test_errors(self):
        for value in BAD_LAYOUTS:
            for book in (TWO, LARGE):
                with self.assertRaises(BadLayout):
                    best_trees(book, value, None)
                with self.assertRaises(BadLayout):
                    without_tie(book, value, None, None)
        bad = [None, 1, {}, [], (), [("b", "a")], [("a", "a")], [["a", "b"]], [("a", "b"), ("a", "b")], [("a", "c")],
               [("a", "b"), ("c", "d")], [("a", "b", "c")], [("a", "t")], [("a", 1)], [(1, "a")], [("A", "a"), ("a", "b")], [None], "ab", [("a", "b"), ["b", "c"]],
               [("a", "b")] + [("a", name) for name in "cdefg"], [("a", "b"), {}],
               [pair for pair in combinations("abcde", 2)]]
        for book in (TWO, LARGE):
            for value in bad:
                with self.assertRaises(BadTies):
                    best_trees(book, ("a", "b"), value)
                with self.assertRaises(BadTies):
                    without_tie(book, ("a", "b"), value, ("a", "b"))
            for value in (*ODD_VALUES, ["a", "b"], ("b", "a"), ("a", "d"), ("a",), ("a", "b", "c"), "ab"):
                with self.assertRaises(BadTie):
                    without_tie(book, ("a", "b"), RING, value)
            with self.assertRaises(BadTies):
                best_trees(book, ("a", "z"), RING)
        for book in (TEN, LARGE):
            with self.assertRaises(TooMany) as caught:
                best_trees(book, ("a", "b"), RING)
            self.assertEqual(caught.exception.most, 9)
            for ties in (RING, RING[:1]):
                with self.assertRaises(TooMany):
                    without_tie(book, ("a", "b"), ties, ("a", "b"))
        for value in ODD_VALUES:
            with self.assertRaises(BadBook):
                best_trees(value, None, None)
            with self.assertRaises(BadBook):
                without_tie(value, None, None, None)


class GrowsTest(unittest.TestCase):
    def test_known(self):
        for book in (TWO, FLAT, NOTHING, Book({"s": SUM, "q": SQUARE, "n": COUNT}, {},
                                              {"a": ("both", "s", "n"), "b": "q"})):
            self.assertIsNone(grows(book))
            for many in range(1, 7):
                self.assertIsNone(round_bar(book, many))
        double = same_loop({"x": 1}, {"x": (("x", 1, 1),)}, (("x", 0, 1),))
        self.assertIsNone(grows(Book({"x": double}, {}, {"a": "x"})))
        for book in (RICH, LASTS, LARGE):
            self.assertIsNotNone(grows(book=book))

    def test_random(self):
        chance = random.Random(951)
        seen = set()
        for _ in range(60):
            book = random_questions(chance, random_book(chance, chance.choice([("in",), KINDS]), (0, 1)), 4, 3)
            found = grows(book)
            self.assertEqual(found, grows(book))
            seen.add(found is None)
            if found is None:
                for rows in ([("in", 1), ("in", 2), (book.kinds[-1], 3), ("in", 0)], [(book.kinds[-1], 2), ("in", 5)] * 2):
                    for name in book.names:
                        orders = [rows[::-1], rows[1:] + rows[:1], rows[2:] + rows[:2]]
                        self.assertEqual({plain_of(book, name, order) for order in orders}, {plain_of(book, name, rows)})
                continue
            name, ahead, one, other, behind = found
            self.assertIsInstance(ahead, list)
            self.assertIsInstance(behind, list)
            self.assertNotEqual(plain_of(book, name, ahead + [one, other] + behind),
                                plain_of(book, name, ahead + [other, one] + behind))
            self.check_bars(book)
        self.assertEqual(len(seen), 2)

    def check_bars(self, book):
        for many in range(1, 7):
            outers, samples = found = round_bar(book, many)
            self.assertEqual(found, round_bar(many=many, book=book))
            self.assertTrue(len(outers) == many - 1 and len(samples) == many)
            for stretches in [*samples, *[outside for _, outside in outers]]:
                self.assertIsInstance(stretches, tuple)
                self.assertEqual(len(stretches), many)
                self.assertTrue(all(isinstance(rows, list) for rows in stretches))
            layout = ("a", "b") * many
            table = [[1] + [plain_of(book, name, joined_rows(layout, ["a"], sample, outside)) for name, outside in outers]
                     for sample in samples]
            self.assertNotEqual(determinant(table), 0)

    def test_no_crossing_is_less(self):
        for book in (RICH, LASTS):
            self.assertGreaterEqual(crossing(book, ("a", "b") * 2, ["a"]), 1)
            self.assertGreater(crossing(book, ("a", "b") * 2, ["a"]), crossing(book, ("a", "b"), ["a"]))
        self.assertLessEqual(crossing(TWO, ("a", "b") * 2, ["a"]), handed(TWO))

    def test_large_books(self):
        # Never TooMany(9) here.
        for book in (TEN, LARGE):
            if grows(book) is not None:
                self.check_bars(book)
        self.assertIsNotNone(round_bar(LARGE, 6))

    def test_errors(self):
        for book in (RICH, FLAT):
            for value in (*ODD_VALUES, 0, 7, -1, 10 ** 30):
                if isinstance(value, int) and not isinstance(value, bool) and 1 <= value <= 6:
                    continue
                with self.assertRaises(BadNumber) as caught:
                    round_bar(book, value)
                self.assertEqual(caught.exception.part, "many")
        for value in ODD_VALUES:
            with self.assertRaises(BadBook):
                grows(value)
            with self.assertRaises(BadBook):
                round_bar(value, None)

    def test_new_lists(self):
        first = round_bar(RICH, 3)
        for sample in first[1]:
            for rows in sample:
                rows.append(("in", 5))
        again = round_bar(RICH, 3)
        self.assertEqual(sorted(len(rows) for sample in again[1] for rows in sample), [0] * 6 + [1] * 3)
        found = grows(RICH)
        found[1].append(1)
        self.assertNotEqual(found, grows(RICH))


if __name__ == "__main__":
    unittest.main()
