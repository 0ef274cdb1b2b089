"""Points 90 to 93: crossings, links with their least numbers, link papers, what comes over links."""

import copy
import random
import unittest

from stillknown.books import Book
from stillknown.errors import BadBook, BadFilling, BadLayout, BadLinks, BadLot, BadPaper, BadRoot, TooMany
from stillknown.handing import handed
from stillknown.links import best_roots, crossing, is_link_paper, link_numbers, link_paper, over_links
from stillknown.loops import Loop
from stillknown.spaces import book_size
from stillknown.trees import grows
from tests.books import FLAT, LARGE, LASTS, LOOPS, NOTHING, PATTERNS, RICH, SUM, TWO
from tests.graphs import (
    NAMES, joined_rows, plain_branches, plain_crossing, plain_of, random_layout, random_tree, small_book,
)
from tests.plain import ODD_VALUES, determinant, random_book, random_questions, random_rows

CHAIN = [("a", "b"), ("b", "c")]
BAD_LAYOUTS = (*ODD_VALUES[:7], "t", [], (), ["a"], ("a",) * 5, ("t",), ("toolong",), ("A",), (1,), (None,), ({},),
               ("a", ["b"]), {"a": 1}, ("",))


def book_of(**questions):
    """A book with the common loops."""
    return Book(LOOPS, PATTERNS, questions)


def sized(size):
    """A book of this size, made at random."""
    chance = random.Random(size)
    while True:
        book = random_questions(chance, random_book(chance, ("in", "out"), (0, 1)), 6, 4)
        if book_size(book) == size:
            return book


NINE, TEN = sized(9), sized(10)


class CrossingTest(unittest.TestCase):
    def test_known(self):
        self.assertEqual(crossing(TWO, ("a", "b"), ["a"]), 2)
        self.assertEqual(crossing(RICH, ("a", "b"), ["a"]), 4)
        self.assertEqual(crossing(RICH, ("a", "b"), ["b"]), 3)
        self.assertEqual(crossing(RICH, ("a", "b", "a"), ["b"]), 5)
        self.assertEqual(crossing(RICH, ("a", "b", "a", "b"), ["a"]), 8)
        self.assertEqual(crossing(book_of(a="last"), ("a", "b"), ("a",)), 1)
        self.assertEqual(crossing(lot=["b"], layout=("a", "b"), book=book_of(a="last")), 2)

    def test_against_tables_of_answers(self):
        chance = random.Random(91)
        grown = 0
        asked = [(RICH, ("ann", "bob") * 2, ["ann"]), (RICH, ("bob", "ann") * 2, ["ann"])]
        for _ in range(40):
            book = small_book(chance, 5, chance.choice([("in",), ("in", "out")]))
            asked.append((book, random_layout(chance, NAMES[:3]), chance.sample(NAMES[:4], chance.randint(0, 3))))
        for book, layout, lot in asked:
            found = crossing(book, layout, lot)
            self.assertEqual(found, plain_crossing(book, layout, lot), (book.questions, layout, lot))
            self.assertEqual(found, crossing(book, layout, tuple(reversed(lot))))
            grown += found > handed(book)
        self.assertGreater(grown, 0)

    def test_nothing_and_all(self):
        for book in (TWO, RICH, LASTS, FLAT, NOTHING):
            for layout in [("a",), ("a", "a"), ("a", "b"), ("a", "b", "a", "b")]:
                self.assertEqual(crossing(book, layout, []), 0)
                self.assertEqual(crossing(book, layout, ["c", "zz"]), 0)
                self.assertLessEqual(crossing(book, layout, ["a", "b", "c"]), len(book.names))
        self.assertEqual(crossing(TWO, ("a",), ["a"]), 2)
        self.assertEqual(crossing(FLAT, ("a",), ["a"]), 0)
        # One question twice is one number.
        self.assertEqual(crossing(book_of(a="sum", b="sum", c=("times", -2, "sum")), ("a", "a", "a", "a"), ["a"]), 1)

    def test_side_by_side(self):
        for book in (TWO, RICH, LASTS):
            for layout, shorter in [(("a", "a", "b"), ("a", "b")), (("b", "a", "a", "b"), ("b", "a", "b")),
                                    (("a", "c", "b", "b"), ("a", "b"))]:
                lot = ["a", "c"]
                self.assertEqual(crossing(book, layout, lot), crossing(book, shorter, lot))

    def test_errors(self):
        for value in BAD_LAYOUTS:
            with self.assertRaises(BadLayout):
                crossing(TWO, value, None)
            for call in (link_numbers, link_paper):
                with self.assertRaises(BadLayout):
                    call(LARGE, value, None, None)
            with self.assertRaises(BadLayout):
                best_roots(TWO, value, None)
            with self.assertRaises(BadLayout):
                is_link_paper(TWO, value, None, None, None)
            with self.assertRaises(BadLayout):
                over_links(TWO, value, None, None, None, None)
        for value in (None, 1, "a", {"a": 1}, ["a", "a"], [1], [["a"]], ["t"], ["a", None], [("a",)], [{}], ["toolong"]):
            for book in (TWO, LARGE):
                with self.assertRaises(BadLot):
                    crossing(book, ("a", "b"), value)
        for value in ODD_VALUES:
            with self.assertRaises(BadBook) as caught:
                crossing(value, None, None)
            self.assertIsNone(caught.exception.part)
        self.assertIsInstance(crossing(NINE, ("a", "b"), ["a"]), int)
        for book in (TEN, LARGE):
            with self.assertRaises(TooMany) as caught:
                crossing(book, ("a",), [])
            self.assertEqual(caught.exception.most, 9)


class LinkNumbersTest(unittest.TestCase):
    def test_known(self):
        layout = ("a", "b", "a")
        self.assertEqual(link_numbers(RICH, layout, CHAIN, "c"), {"a": 6, "b": 2})
        self.assertEqual(link_numbers(RICH, layout, CHAIN, "b"), {"a": 6, "c": 0})
        self.assertEqual(link_numbers(root="a", links=tuple(CHAIN), layout=layout, book=RICH), {"b": 5, "c": 0})
        self.assertEqual(list(link_numbers(TWO, ("zz", "a", "m"), [("zz", "m"), ("a", "m")], "m")), ["a", "zz"])
        self.assertEqual(best_roots(RICH, layout, CHAIN), ["a"])
        self.assertEqual(best_roots(links=CHAIN, layout=("b", "c"), book=book_of(a="last")), ["c"])

    def test_one_worker_alone(self):
        for layout in (("a",), ("a",) * 4):
            self.assertEqual(link_numbers(TWO, layout, [], "a"), {})
            self.assertEqual(best_roots(TWO, layout, ()), ["a"])
            self.assertEqual(link_paper(TWO, layout, [], "a"), {})
            self.assertEqual(over_links(TWO, layout, [], "a", {}, ([("in", 2)],) * len(layout)),
                             ({}, (2 * len(layout), len(layout))))

    def test_every_branch(self):
        chance = random.Random(92)
        for _ in range(25):
            book = small_book(chance, 6)
            workers = chance.sample(NAMES, chance.randint(2, 6))
            layout = random_layout(chance, workers)
            if len(set(layout)) == 1:
                continue
            links = random_tree(chance, workers)
            sums = {}
            for root in workers:
                numbers = link_numbers(book, layout, links, root)
                self.assertEqual(list(numbers), sorted(set(workers) - {root}))
                for worker, branch in plain_branches(links, root).items():
                    self.assertEqual(numbers[worker], crossing(book, layout, branch))
                sums[root] = sum(numbers.values())
            least = min(sums.values())
            self.assertEqual(best_roots(book, layout, links), sorted(root for root in sums if sums[root] == least))

    def test_errors(self):
        bad = [None, 1, "ab", {}, {("a", "b"): 1}, [], (), [("a", "b"), ("b", "a")], [("a", "b"), ("a", "b")],
               [("a", "a")], [["a", "b"]], [("a", "c")], [("a", "b"), ("c", "d")], [("a", "b"), ("b", "c"), ("a", "c")],
               [("a", "b", "c")], [("a", "t")], [("a", "B")], [("a", 1)], [(1, "a")], [("t", "a")], [({}, "a")], [("a", "b"), (None, "b")], [None], [("a", "b"), None], ["ab"],
               [("a", "b")] + [("a", name) for name in ("c", "d", "e", "f", "g")],
               [("a", "b"), ("c", "d"), ("d", "e"), ("e", "c")]]
        for book in (TWO, LARGE):
            for value in bad:
                with self.assertRaises(BadLinks):
                    link_numbers(book, ("a", "b"), value, None)
                with self.assertRaises(BadLinks):
                    best_roots(book, ("a", "b"), value)
                with self.assertRaises(BadLinks):
                    is_link_paper(book, ("a", "b"), value, None, None)
            # Links are [] exactly if the layout has one worker alone.
            for layout in (("a",), ("a", "a")):
                with self.assertRaises(BadLinks):
                    link_numbers(book, layout, [("a", "b")], "a")
            for value in (*ODD_VALUES, "c", ["a"], ("a",)):
                if value != "a":
                    with self.assertRaises(BadRoot):
                        link_numbers(book, ("a", "b"), [("a", "b")], value)
                    with self.assertRaises(BadRoot):
                        link_paper(book, ("a",), [], value)
                    with self.assertRaises(BadRoot):
                        over_links(book, ("a",), [], value, None, None)
        for call in (link_numbers, link_paper):
            with self.assertRaises(TooMany) as caught:
                call(TEN, ("a", "b"), [("a", "b")], "a")
            self.assertEqual(caught.exception.most, 9)
            with self.assertRaises(BadBook):
                call(None, None, None, None)
        with self.assertRaises(TooMany):
            best_roots(TEN, ("a",), [])
        with self.assertRaises(TooMany):
            is_link_paper(TEN, ("a",), [], "a", {})
        with self.assertRaises(TooMany):
            over_links(TEN, ("a",), [], "a", None, None)
        self.assertEqual(len(link_numbers(TWO, ("a", "b"), [("a", "b")] + [("a", c) for c in "cdef"], "f")), 5)


class OverLinksTest(unittest.TestCase):
    def check_paper(self, book, layout, links, root, paper):
        """By the words of point 93."""
        branches = plain_branches(links, root)
        self.assertEqual(list(paper), sorted(branches))
        for worker, (outers, samples) in paper.items():
            lot = branches[worker]
            self.assertEqual(len(outers), crossing(book, layout, lot))
            self.assertEqual(len(samples), len(outers) + 1)
            table = [[1] + [plain_of(book, name, joined_rows(layout, lot, sample, outside)) for name, outside in outers]
                     for sample in samples]
            if len(table) < 7:
                self.assertNotEqual(determinant(table), 0)
            for filling in [*samples, *[outside for _, outside in outers]]:
                self.assertIsInstance(filling, tuple)
                self.assertTrue(all(isinstance(rows, list) for rows in filling))

    def test_against_all_rows(self):
        chance = random.Random(93)
        shapes = set()
        for _ in range(24):
            book = small_book(chance, 6)
            workers = chance.sample(NAMES, chance.randint(2, 6))
            layout = random_layout(chance, workers)
            if len(set(layout)) == 1:
                continue
            links = random_tree(chance, workers)
            filling = tuple(random_rows(chance, book.kinds, 5, 30) for _ in layout)
            whole = [row for rows in filling for row in rows]
            answers = tuple(plain_of(book, name, whole) for name in book.names)
            for root in workers:
                paper = link_paper(book, layout, links, root)
                self.assertEqual(paper, link_paper(book, layout, links, root))
                self.check_paper(book, layout, links, root, paper)
                self.assertIs(is_link_paper(book, layout, links, root, paper), True)
                handed_on, told = over_links(book, layout, links, root, paper, filling)
                self.assertEqual(told, answers)
                self.assertEqual(list(handed_on), list(paper))
                branches = plain_branches(links, root)
                for worker, (outers, _) in paper.items():
                    lot = branches[worker]
                    inside = [rows for rows, holder in zip(filling, layout) if holder in lot]
                    self.assertEqual(handed_on[worker], tuple(
                        plain_of(book, name, joined_rows(layout, lot, inside, outside)) for name, outside in outers))
            shapes.add((len(workers), len(layout)))
        self.assertGreater(len(shapes), 6)

    def test_other_papers(self):
        # Papers of other readings, and of long samples, tell the same answers.
        chance = random.Random(94)
        layout, links = ("a", "b", "a", "c"), [("a", "b"), ("c", "b")]
        done = 0
        for book in [TWO, RICH, LASTS] + [small_book(chance, 5) for _ in range(5)]:
            paper = link_paper(book, layout, links, "b")
            for _ in range(100):
                worker = chance.choice(["a", "c"])
                outers, samples = paper[worker]
                sides = {"a": (2, 2), "c": (1, 3)}[worker]
                outers = tuple((chance.choice(book.names), tuple(random_rows(chance, book.kinds) for _ in range(sides[1])))
                               for _ in outers)
                samples = tuple(tuple(random_rows(chance, book.kinds) for _ in range(sides[0])) for _ in samples)
                changed = {**paper, worker: (outers, samples)}
                if is_link_paper(book, layout, links, "b", changed):
                    paper = changed
                    done += 1
            for _ in range(3):
                filling = tuple(random_rows(chance, book.kinds, 5, 9) for _ in layout)
                told = over_links(book, layout, links, "b", paper, filling)[1]
                self.assertEqual(told, tuple(book.answers([row for rows in filling for row in rows]).values()))
        self.assertGreater(done, 10)

    def test_greatest_numbers(self):
        chance = random.Random(95)
        layout, links = ("a", "b", "a", "b"), [("a", "c"), ("b", "c"), ("c", "d")]
        for book in (NINE, RICH):
            paper = link_paper(book, layout, links, "d")
            filling = tuple(random_rows(chance, book.kinds, 40, 10 ** 30 - 1) for _ in layout)
            self.assertEqual(over_links(book, layout, links, "d", paper, filling)[1],
                             tuple(book.answers([row for rows in filling for row in rows]).values()))

    def test_is_link_paper(self):
        layout, links = ("a", "b"), [("a", "b")]
        book = book_of(a="last")
        good = {"a": ((("a", ([],)),), (([],), ([("in", 4)],)))}
        for value in (good, {"a": ((("a", ((("out", 1),),)),), (((),), ((("in", 9), ("out", 2)),)))}):
            self.assertIs(is_link_paper(book, layout, links, "b", value), True)
        for value in ODD_VALUES:
            self.assertIs(is_link_paper(book, layout, links, "b", value), False)
            self.assertIs(is_link_paper(book, layout, links, "b", {"a": value}), False)
            self.assertIs(is_link_paper(book, layout, links, "b", {"a": (value, good["a"][1])}), False)
            self.assertIs(is_link_paper(book, layout, links, "b", {"a": (good["a"][0], value)}), False)
            self.assertIs(is_link_paper(book, layout, links, "b", {"a": ((value,), good["a"][1])}), False)
            self.assertIs(is_link_paper(book, layout, links, "b", {"a": (good["a"][0], (value, good["a"][1][1]))}),
                          value == ([],))
            with self.assertRaises(BadPaper):
                over_links(book, layout, links, "b", value, None)
        outer, one, other = ("a", ([],)), ([],), ([("in", 4)],)
        wrong = [{}, {"b": good["a"]}, {**good, "b": good["a"]}, {"a": list(good["a"])}, {"a": ((), (one,))},
                 {"a": ((outer,), (one,))}, {"a": ((outer,), (one, one))}, {"a": ((outer,), (one, ([("in", 0)],)))},
                 {"a": ((outer,), (one, other, other))}, {"a": ((outer, outer), (one, other, ([("in", 5)],)))},
                 {"a": ((("b", ([],)),), (one, other))}, {"a": ((("a", ()),), (one, other))},
                 {"a": ((("a", ([], [])),), (one, other))}, {"a": ((("a", [[]]),), (one, other))},
                 {"a": ([outer], (one, other))}, {"a": ((outer,), [one, other])}, {"a": ((outer,), ([[]], other))},
                 {"a": ((outer,), (([("in", True)],), other))}, {"a": ((outer,), (([("up", 1)],), other))},
                 {"a": ((("a", ([("in", 3)],)),), (one, other))}, {"a": ((outer,), (one, ([["in", 4]],)))},
                 {"a": ((["a", ([],)],), (one, other))}, {"a": (*good["a"], ())}]
        for value in wrong:
            self.assertIs(is_link_paper(book, layout, links, "b", value), False, value)
        # A worker that holds nothing hands on nothing.
        for value, fits in [(((), ((),)), True), (((), ([],)), False), (((), ()), False), ((((),), ((),)), False)]:
            paper = {"a": good["a"], "c": value}
            self.assertIs(is_link_paper(book, layout, [("a", "b"), ("b", "c")], "b", paper), fits)
        self.assertIs(is_link_paper(thing={}, root="a", links=[], layout=("a",), book=book), True)
        self.assertIs(is_link_paper(book, ("a",), [], "a", []), False)
        self.assertIs(is_link_paper(book, ("a",), [], "a", {"b": ((), ((),))}), False)

    def test_paper_and_filling_errors(self):
        layout, links = ("a", "b"), [("a", "b")]
        paper = link_paper(TWO, layout, links, "b")
        with self.assertRaises(BadPaper):
            over_links(TWO, layout, links, "a", paper, ([], []))
        for value in (*ODD_VALUES, [[], []], ([],), ([], [], []), ([], [("in", True)]), ([], [("up", 1)]), ([], ["in"]),
                      ([], {}), ([], "in")):
            with self.assertRaises(BadFilling):
                over_links(TWO, layout, links, "b", paper, value)
            with self.assertRaises(BadPaper):
                over_links(TWO, layout, links, "b", {}, value)
        told = over_links(filling=((("in", 3),), []), paper=paper, root="b", links=links, layout=layout, book=TWO)
        self.assertEqual(told[1], (3, 1))

    def test_nothing_is_changed(self):
        layout, links = ("a", "b", "a"), [("a", "c"), ("c", "b")]
        first = link_paper(RICH, layout, links, "c")
        kept = copy.deepcopy(first)
        filling = ([("in", 1)], [("out", 5), ("in", 2)], [])
        passed = copy.deepcopy((links, filling))
        told = over_links(RICH, layout, links, "c", first, filling)
        self.assertEqual((links, filling), passed)
        self.assertEqual(first, kept)
        for outers, samples in first.values():
            for stretches in [*samples, *[outside for _, outside in outers]]:
                for rows in stretches:
                    rows.append(("in", 99))
        first.clear()
        self.assertEqual(link_paper(RICH, layout, links, "c"), kept)
        told[0].clear()
        self.assertEqual(list(over_links(RICH, layout, links, "c", kept, filling)[0]), ["a", "b"])
        numbers = link_numbers(RICH, layout, links, "c")
        numbers.clear()
        self.assertEqual(len(link_numbers(RICH, layout, links, "c")), 2)

    def test_growing_only_if_the_order_matters(self):
        chance = random.Random(96)
        for book in [TWO, FLAT, NOTHING] + [small_book(chance, 6) for _ in range(15)]:
            if grows(book) is None:
                for layout in (("a", "b"), ("a", "b", "a", "b"), ("b", "a", "c", "a")):
                    self.assertLessEqual(crossing(book, layout, ["a"]), handed(book))

    def test_powers(self):
        square = Loop({"q": 0}, {"in": {"q": (("", 2, 1), ("q", 1, 1))}, "out": {"q": (("q", 0, 2),)}}, (("q", 0, 1),))
        book = Book({"q": square, "s": SUM}, {}, {"a": "q"})
        links = [("a", "b"), ("c", "b")]
        paper = link_paper(book, ("a", "b", "c"), links, "b")
        filling = ([("in", 7), ("out", 1)], [("in", -5)], [("in", 11), ("in", 2)])
        self.assertEqual(over_links(book, ("a", "b", "c"), links, "b", paper, filling)[1],
                         (book.answer("a", [row for rows in filling for row in rows]),))


if __name__ == "__main__":
    unittest.main()
