"""Points 70 to 74: folded rows, what is told and known of them, records, crowds; what is read again, keeps that last."""

import copy
import random
import unittest

from stillknown.books import Book
from stillknown.errors import (
    BadAmong, BadBook, BadExpression, BadExpressions, BadKeep, BadNumbers, BadRows, NotKnown, TooMany,
)
from stillknown.known import are_crowds, crowds, folded, is_record, knows, record, tell
from stillknown.loops import Loop
from stillknown.pasts import is_let_by
from stillknown.patterns import Pattern
from stillknown.reading import folded_on, lasting, to_read
from tests.books import EVEN, LAST, LOOPS, NEVER, ONE, SHORT, SUM, ZERO
from tests.plain import (
    ODD_VALUES, all_rows, check_any_values, plain_answer, random_book, random_expression, random_questions, random_rows,
    rank_of,
)

BOOK = Book(LOOPS, {"even": EVEN, "short": SHORT, "never": NEVER},
            {"s": "sum", "n": "many", "l": "last", "ns": "square"})
FLAT = Book({"zero": ZERO, "one": ONE}, {}, {"z": "zero", "o": "one"})
LARGE = ("plus", ("cuts", "sum", "sum"), ("cuts", "sum", "sum"))
KEEP = [("s", []), ("n", [])]


def kept_of(book, keep, rows):
    """The kept numbers, plainly."""
    return tuple(plain_answer(book, book.questions[name], list(rows) + list(behind)) for name, behind in keep)


def let_rows(chance, book, among, many):
    """Short row lists that are let, and some made at random."""
    found = [rows for rows in all_rows(book.kinds, (0, 1, 2), 3) if is_let(book, among, rows)]
    for _ in range(many):
        rows = random_rows(chance, book.kinds, 7, 4)
        if isinstance(among, tuple):
            rows = [row for row in rows if row[0] != among[0]]
            at = sorted(chance.randint(0, len(rows)) for _ in among[1])
            for more, (place, row) in enumerate(zip(at, among[1])):
                rows.insert(place + more, row)
        if is_let(book, among, rows):
            found.append(rows)
    return found


def is_let(book, among, rows):
    """Whether a row list is let, by the words of point 71."""
    if among is None:
        return True
    if isinstance(among, str):
        return book.patterns[among].fits(rows)
    return [row for row in rows if row[0] == among[0]] == list(among[1])


class Case:
    """A book, a keep, an expression, what is known of the folded rows, and many row lists that are let."""

    def __init__(self, chance):
        kinds = chance.choice([("in",), ("in", "out"), ("a", "b", "c")])
        while True:
            self.book = random_questions(chance, random_book(chance, kinds, chance.choice([(0,), (0, 1)])), 4, 2)
            if max(self.book.degree(name) for name in self.book.names) < 2:
                break
        names = self.book.names
        self.keep = [(chance.choice(names), random_rows(chance, kinds, 2, 2)) for _ in range(chance.randint(0, 4))]
        self.expression = chance.choice([self.book.questions[chance.choice(names)],
                                         random_expression(chance, self.book, 4, 2)])
        kind = chance.choice(kinds)
        own = [(kind, chance.randint(-3, 3)) for _ in range(chance.randint(0, 3))]
        self.among = chance.choice([None, None, "p", "q", (kind, own)])
        self.rows = random_rows(chance, kinds, 2, 2)
        self.pasts = let_rows(chance, self.book, self.among, 40)
        self.ones = [1] * len(self.pasts)
        self.kept = [self.ones] + [list(line) for line in zip(*[kept_of(self.book, self.keep, rows)
                                                                for rows in self.pasts])]
        if not self.keep:
            self.kept = [self.ones]

    def answers(self, behind, expression=None):
        asked = self.expression if expression is None else expression
        return [plain_answer(self.book, asked, rows + list(behind)) for rows in self.pasts]

    def told(self, behind):
        return rank_of(self.kept + [self.answers(behind)]) == rank_of(self.kept)

    def laters(self):
        degree = min(self.book.degree_of(self.expression), 2)
        return list(all_rows(self.book.kinds, range(degree + 1), 3))[:30]


def cases(seed, many):
    """Cases in which some row list is let."""
    chance = random.Random(seed)
    for _ in range(many):
        case = Case(chance)
        if case.pasts:
            yield case


class FoldedTest(unittest.TestCase):
    def test_folded(self):
        rows = [("in", 5), ("out", 2), ("in", 4)]
        self.assertEqual(folded(BOOK, KEEP, rows), (7, 3))
        self.assertEqual(folded(BOOK, (("s", (("in", 1),)), ("l", [("out", 3)])), tuple(rows)), (8, 4))
        self.assertEqual(folded(rows=[], keep=[], book=BOOK), ())
        self.assertEqual(folded(BOOK, KEEP * 6, []), (0, 0) * 6)
        chance = random.Random(70)
        for _ in range(40):
            book = random_questions(chance, random_book(chance), 5)
            keep = [(chance.choice(book.names), random_rows(chance, book.kinds, 3)) for _ in range(3)]
            rows = random_rows(chance, book.kinds)
            before = copy.deepcopy((keep, rows))
            self.assertEqual(folded(book, keep, rows), kept_of(book, keep, rows))
            self.assertEqual((keep, rows), before)

    def test_star_behind_twelve_rows(self):
        book = Book(LOOPS, {}, {"a": ("star", "many")})
        behind = [("in", 0)] * 12
        # The sums over all cuts of the products of the lengths are every second Fibonacci number.
        self.assertEqual(folded(book, [("a", behind)], []), (46368,))
        keep = [("a", behind), ("a", [("in", 0)])]
        self.assertEqual(tell(book, keep, (46368, 1), ("star", "many"), [("in", 0)] * 2), 3)
        self.assertRaises(NotKnown, tell, book, keep, (46368, 1), ("star", "many"), [])


class TellTest(unittest.TestCase):
    def test_known(self):
        self.assertEqual(tell(BOOK, KEEP, (7, 3), "sum", []), 7)
        self.assertEqual(tell(BOOK, KEEP, (7, 3), "sum", [("in", 10), ("out", 1)]), 16)
        self.assertEqual(tell(BOOK, KEEP, (7, 3), ("plus", "sum", ("times", 5, "many")), [("in", 10)]), 37)
        # How many rows are ahead of each cut hangs on both numbers, and on the rows that come behind.
        self.assertRaises(NotKnown, tell, BOOK, KEEP, (7, 3), ("cuts", "many", "sum"), [])
        self.assertRaises(NotKnown, tell, BOOK, KEEP, (7, 3), "last", [])
        self.assertRaises(NotKnown, tell, BOOK, KEEP, (7, 3), "last", [("out", 1)])
        self.assertEqual(tell(BOOK, KEEP, (7, 3), "last", [("in", 9), ("out", 1)]), 9)
        self.assertEqual(tell(BOOK, [], (), "last", [("in", 9)]), 9)
        self.assertEqual(tell(rows=[], expression="zero", numbers=(), keep=[], book=FLAT), 0)
        self.assertRaises(NotKnown, tell, BOOK, [], (), "many", [])
        # Beside what is kept: the folded rows fit a pattern, or are those of an owner.
        short = ("only", "short", "many")
        self.assertRaises(NotKnown, tell, BOOK, [], (), short, [])
        self.assertEqual(tell(BOOK, [], (), ("only", "short", "sum"), [("in", 1), ("in", 1)]), 0)
        self.assertEqual(tell(BOOK, KEEP, (7, 3), ("only", "even", "sum"), [], among="even"), 7)
        self.assertEqual(tell(BOOK, KEEP, (7, 3), ("only", "even", "sum"), [("in", 1)], among="even"), 0)
        self.assertRaises(NotKnown, tell, BOOK, KEEP, (7, 3), ("only", "even", "sum"), [])
        own = ("in", [("in", 4), ("in", 5)])
        self.assertEqual(tell(BOOK, KEEP, (7, 3), ("without", "in", "sum"), [], among=own), -2)
        self.assertEqual(tell(BOOK, [], (), ("without", "out", "sum"), [("in", 1)], among=own), 10)
        self.assertEqual(tell(BOOK, [], (), "last", [], among=own), 5)
        self.assertEqual(tell(BOOK, [("l", [])], (0,), "last", [], among=("in", ())), 0)

    def test_not_whole(self):
        double = Loop({"x": 0}, {"in": {"x": (("", 0, 2), ("x", 0, 1))}}, (("x", 0, 1),))
        count = Loop({"n": 0}, {"in": {"n": (("", 0, 1), ("n", 0, 1))}}, (("n", 0, 1),))
        book = Book({"x": double, "n": count}, {}, {"a": "x"})
        self.assertEqual(tell(book, [("a", [])], (6,), "n", []), 3)
        self.assertRaises(BadNumbers, tell, book, [("a", [])], (7,), "n", [])
        self.assertEqual(folded_on(book, [("a", [])], (7,), [("in", 0)]), (9,))
        halves = Book({"x": double, "n": count}, {}, {"a": "x", "b": "n"})
        self.assertEqual(folded_on(halves, [("a", []), ("b", [])], (6, 3), [("in", 0)]), (8, 4))

    def test_random(self):
        both = set()
        for case in cases(71, 60):
            numbers = kept_of(case.book, case.keep, case.pasts[-1])
            told = case.told(case.rows)
            both.add(told)
            asked = (case.book, case.keep, numbers, case.expression, case.rows)
            if not told:
                self.assertRaises(NotKnown, tell, *asked, among=case.among)
                continue
            answer = plain_answer(case.book, case.expression, case.pasts[-1] + case.rows)
            self.assertEqual(tell(*asked, among=case.among), answer)
        self.assertEqual(both, {True, False})


class KnowsTest(unittest.TestCase):
    def test_known(self):
        self.assertIs(knows(BOOK, KEEP, "sum"), True)
        self.assertIs(knows(BOOK, KEEP[1:], "sum"), False)
        self.assertIs(knows(BOOK, [], ("times", 0, "sum")), True)
        self.assertIs(knows(BOOK, [("s", [("in", 5)])], "sum"), True)
        self.assertIs(knows(BOOK, KEEP, "last"), False)
        self.assertIs(knows(BOOK, KEEP, "last", [("in", 3)]), True)
        self.assertIs(knows(BOOK, KEEP, "last", (("out", 3),)), False)
        self.assertIs(knows(rows=[], expression="many", keep=KEEP, book=BOOK, among=None), True)
        self.assertIs(knows(FLAT, [], "one"), True)
        # Told, but not known: nothing comes of it now, but further rows may bring it out.
        late = Loop({"x": 0, "y": 0}, {"in": {"x": (("", 1, 1), ("x", 0, 1)), "y": ()},
                                       "out": {"x": (), "y": (("x", 0, 1),)}}, (("y", 0, 1),))
        book = Book({"late": late, "sum": SUM}, {}, {"a": "late"})
        self.assertEqual(tell(book, [], (), "late", [("in", 5)]), 0)
        self.assertIs(knows(book, [], "late", [("in", 5)]), False)
        self.assertIs(knows(book, [], "late", [("out", 5), ("out", 1)]), True)

    def test_random(self):
        seen = set()
        for case in cases(72, 70):
            asked = (case.book, case.keep, case.expression)
            known = knows(*asked, case.rows, among=case.among)
            plain = all(case.told(case.rows + later) for later in case.laters())
            if known:
                self.assertTrue(plain)
            self.assertFalse(case.told(case.rows) is False and known)
            shown = crowds(*asked, case.rows, among=case.among)
            self.assertEqual(shown is None, known)
            if shown is not None:
                self.check_crowds(case, shown)
            seen.add((known, type(case.among)))
            # What is known is known by more pairs, too, and behind further rows.
            if known:
                more = list(case.keep) + [(case.book.names[0], [])]
                self.assertIs(knows(case.book, more, case.expression, case.rows, among=case.among), True)
                self.assertIs(knows(*asked, case.rows + [case.laters()[1][0]], among=case.among), True)
            self.assertEqual(shown, crowds(*asked, case.rows, among=case.among))
        self.assertEqual(len(seen), 6)

    def check_crowds(self, case, shown):
        one, other, behind = shown
        self.assertTrue(isinstance(one, list) and isinstance(other, list) and isinstance(behind, list))
        self.assertEqual(behind[:len(case.rows)], case.rows)
        for pairs in (one, other):
            for count, rows in pairs:
                self.assertGreaterEqual(count, 1)
                self.assertTrue(isinstance(rows, list) and is_let(case.book, case.among, rows))
                self.assertLess(len(rows), 16 if case.among is None else 64)

        def total(pairs, question, later):
            return sum(count * plain_answer(case.book, question, rows + list(later)) for count, rows in pairs)

        self.assertEqual(sum(count for count, _ in one), sum(count for count, _ in other))
        for name, later in case.keep:
            question = case.book.questions[name]
            self.assertEqual(total(one, question, later), total(other, question, later))
        self.assertNotEqual(total(one, case.expression, behind), total(other, case.expression, behind))
        self.assertTrue(are_crowds(case.book, case.keep, case.expression, shown, case.rows, among=case.among))
        self.assertFalse(are_crowds(case.book, list(case.keep) + [(n, []) for n in case.book.names], case.expression,
                                    (one, one, behind), case.rows, among=case.among))

    def test_among_that_lets_fewer(self):
        for case in cases(73, 30):
            if case.among is not None and knows(case.book, case.keep, case.expression, case.rows):
                self.assertTrue(knows(case.book, case.keep, case.expression, case.rows, among=case.among))


class AmongTest(unittest.TestCase):
    def test_let(self):
        rows = [("in", 1), ("out", 2), ("in", 3)]
        for among, let in [(None, True), ("even", True), ("short", False), (("in", [("in", 1), ("in", 3)]), True),
                           (("in", [("in", 3), ("in", 1)]), False), (("in", ()), False), (("out", (("out", 2),)), True)]:
            self.assertIs(is_let_by(BOOK, among, rows), let)

    def calls(self, among):
        return [lambda: tell(BOOK, KEEP, (0, 0), "sum", [], among=among), lambda: knows(BOOK, KEEP, "sum", among=among),
                lambda: record(BOOK, KEEP, "sum", among=among), lambda: is_record(BOOK, KEEP, "sum", None, among=among),
                lambda: crowds(BOOK, KEEP, "sum", among=among), lambda: are_crowds(BOOK, KEEP, "sum", None, among=among),
                lambda: to_read(BOOK, KEEP, ["sum"], among=among)]

    def test_bad_among(self):
        own = [("in", 1)]
        for value in [*ODD_VALUES, "never", "sum", ["in", own], ("in", own * 4), ("in", [("out", 1)]), ("no", []),
                      ("in", [("in", True)]), ("in", None), ("in",), ("in", own, 1), ("even", []), (None, []), ("in", [["in", 1]])]:
            if value is not None:
                for work in self.calls(value):
                    self.assertRaises(BadAmong, work)
        for value in (None, "even", "short", ("in", own * 3), ("in", ()), ("out", [])):
            for work in self.calls(value):
                work()

    def test_by_name_only(self):
        self.assertRaises(TypeError, tell, BOOK, KEEP, (0, 0), "sum", [], None)
        self.assertRaises(TypeError, knows, BOOK, KEEP, "sum", [], None)
        self.assertRaises(TypeError, record, BOOK, KEEP, "sum", None)
        self.assertRaises(TypeError, is_record, BOOK, KEEP, "sum", None, None)
        self.assertRaises(TypeError, crowds, BOOK, KEEP, "sum", [], None)
        self.assertRaises(TypeError, are_crowds, BOOK, KEEP, "sum", None, [], None)
        self.assertRaises(TypeError, to_read, BOOK, KEEP, ["sum"], None)

    def test_one_kind(self):
        # All rows are the owner's: then everything is known.
        book = Book({"n": Loop({"n": 0}, {"in": {"n": (("", 1, 1), ("n", 0, 2))}}, (("n", 0, 1),))}, {}, {"a": "n"})
        own = ("in", [("in", 10 ** 29), ("in", -1), ("in", 7)])
        self.assertIs(knows(book, [], ("star", "n"), among=own), True)
        self.assertEqual(tell(book, [], (), "n", [], among=own), 4 * 10 ** 29 - 2 + 7)
        self.assertIsNone(crowds(book, [], "n", among=own))
        self.assertEqual(to_read(book, [], ["n", ("star", "n")], among=own), [])

    def test_patterns_of_four_states(self):
        third = Pattern({"in": [1, 2, 3, 3], "out": [0, 1, 2, 3]}, [2])
        many = Loop({"n": 0}, {"in": {"n": (("", 0, 1), ("n", 0, 1))}, "out": {"n": (("n", 0, 1),)}}, (("n", 0, 1),))
        book = Book({"ins": many, "sum": SUM, "last": LAST}, {"two": third}, {"s": "sum"})
        # Just two rows came in.
        self.assertEqual(tell(book, [], (), "ins", [("in", 3)], among="two"), 3)
        self.assertIs(knows(book, [], ("both", "ins", "ins"), among="two"), True)
        self.assertIs(knows(book, [], "ins"), False)
        self.assertIs(knows(book, [], "sum", among="two"), False)
        self.assertTrue(all(third.fits(rows) for part in crowds(book, [], "sum", among="two")[:2] for _, rows in part))


class RecordTest(unittest.TestCase):
    def test_known(self):
        self.assertEqual(record(BOOK, KEEP, "sum"), (1, ([],), ((0, 1, 0),)))
        self.assertEqual(record(BOOK, [("s", [("in", 4)])], "sum"), (1, ([],), ((-4, 1),)))
        self.assertIsNone(record(BOOK, KEEP, "last"))
        self.assertEqual(record(expression="one", keep=[], book=FLAT), (1, ([],), ((1,),)))
        self.assertEqual(record(FLAT, [], ("times", 0, "one")), (1, ([],), ((0,),)))
        # Two numbers are kept of the last one: what it is, and whether there is one is not needed behind rows.
        self.assertEqual(record(BOOK, [("l", [])], "last"), (1, ([],), ((0, 1),)))
        over, behinds, lines = record(BOOK, [("s", []), ("n", [])], ("plus", "sum", ("turned", "many")))
        self.assertEqual((over, behinds, lines), (1, ([],), ((0, 1, 1),)))

    def test_no_rows_first(self):
        # Behind no rows it never changes: what is needed comes beside this one.
        late = Loop({"x": 0, "y": 0}, {"in": {"x": (("", 1, 1), ("x", 0, 1)), "y": ()},
                                       "out": {"x": (), "y": (("x", 0, 1),)}}, (("y", 0, 1),))
        book = Book({"late": late}, {"ends": Pattern({"in": [0], "out": [0]}, [0]),
                                     "in": Pattern({"in": [1, 1], "out": [0, 0]}, [1])}, {"a": "late"})
        keep = [("a", [("out", 0)])]
        self.assertEqual(record(book, keep, "late", among="in"), (1, ([], [("out", 0)]), ((0, 0), (0, 1))))
        self.assertIsNone(record(book, keep, "late"))

    def test_random(self):
        found = []
        for case in cases(74, 60):
            asked = (case.book, case.keep, case.expression)
            told = record(*asked, among=case.among)
            self.assertEqual(told is not None, knows(*asked, among=case.among))
            if told is None:
                continue
            self.assertEqual(told, record(*asked, among=case.among))
            self.assertTrue(is_record(*asked, told, among=case.among))
            over, behinds, lines = told
            self.assertEqual(behinds[0], [])
            self.assertTrue(isinstance(behinds, tuple) and all(isinstance(behind, list) for behind in behinds))
            self.assertEqual(len(behinds), len(lines))
            rows = [case.answers(behind) for behind in behinds]
            for answers, line in zip(rows, lines):
                for answer, *kept in zip(answers, *case.kept):
                    self.assertEqual(over * answer, sum(x * y for x, y in zip(line, kept)))
            free = rank_of([case.ones] + rows) - 1
            self.assertLessEqual(rank_of([case.ones] + rows + [case.answers(later) for later in case.laters()]) - 1, free)
            self.assertEqual(len(behinds), free + (rank_of([case.ones, rows[0]]) == 1))
            found.append(len(behinds))
            at = random.Random(free).randrange(len(lines))
            wrong = lines[:at] + ((lines[at][0] + 1,) + lines[at][1:],) + lines[at + 1:]
            self.assertFalse(is_record(*asked, (over, behinds, wrong), among=case.among))
            if len(behinds) > 1:
                self.assertFalse(is_record(*asked, (over, behinds[:-1], lines[:-1]), among=case.among))
        self.assertTrue(len(found) > 10 and max(found) > 1)

    def test_is_record(self):
        keep = [("s", []), ("s", [("in", 3)])]
        more = [("in", 7)]
        good = [(1, ([],), ((0, 1, 0),)), (2, ((),), ((0, 2, 0),)), (2, ([],), ((-3, 1, 1),)),
                # With more behinds than are needed, the same one twice.
                (1, ([], more, more), ((0, 1, 0), (7, 1, 0), (4, 0, 1))), (1, ([], []), ((0, 1, 0), (-3, 0, 1)))]
        check_any_values(self, lambda value: is_record(BOOK, keep, "sum", value), good)
        wrong = [(0, ([],), ((0, 0, 0),)), (-1, ([],), ((0, -1, 0),)), (True, ([],), ((0, 1, 0),)), [1, ([],), ((0, 1, 0),)],
                 (1, [[]], ((0, 1, 0),)), (1, ([],), [(0, 1, 0)]), (1, ([],), ([0, 1, 0],)), (1, ([],), ((0, 1),)),
                 (1, ([],), ((0, 1, 0), (0, 1, 0))), (1, (), ()), (1, (more,), ((7, 1, 0),)), (1, ([],), ((1, 1, 0),)),
                 (1, ([], [("in", True)]), ((0, 1, 0), (1, 1, 0))), (1, ([], None), ((0, 1, 0), (1, 1, 0))),
                 (1, ([],), ((0, True, 0),)), (1, ([],), ((0, 1, 0),), 1), (2, ([], more), ((0, 2, 0), (7, 2, 0))),
                 (1, (more, []), ((7, 1, 0), (0, 1, 0)))]
        for value in wrong:
            self.assertIs(is_record(BOOK, keep, "sum", value), False, value)
        self.assertIs(is_record(thing=good[0], expression="sum", keep=keep, book=BOOK, among=None), True)
        # What is right of the rows that are let need not be right of all.
        own = ("in", [("in", 4)])
        self.assertIs(is_record(BOOK, [], ("without", "out", "sum"), (1, ([],), ((4,),)), among=own), True)
        self.assertIs(is_record(BOOK, [], ("without", "out", "sum"), (1, ([],), ((4,),))), False)

    def test_all_that_may_come_must_hang_on_it(self):
        # The number of rows times the sum: three numbers of the past.
        book = Book(LOOPS, {}, {"a": ("cuts", "many", "sum"), "b": "sum", "c": "many"})
        keep = [("a", []), ("b", []), ("c", [])]
        short = (1, ([],), ((0, 1, 0, 0),))
        question = ("cuts", "many", "sum")
        self.assertIs(is_record(book, keep, question, short), False)
        over, behinds, lines = record(book, keep + [("a", [("in", 1)]), ("a", [("in", 0)])], question)
        self.assertEqual(len(behinds), 3)
        self.assertIs(is_record(book, keep + [("a", [("in", 1)]), ("a", [("in", 0)])], question, (over, behinds, lines)), True)


class CrowdsTest(unittest.TestCase):
    def test_known(self):
        self.assertIsNone(crowds(BOOK, KEEP, "sum"))
        one, other, behind = crowds(BOOK, KEEP, "last", [("out", 4)])
        self.assertEqual(behind[0], ("out", 4))
        self.assertIsNone(crowds(BOOK, KEEP, "last", [("in", 4)]))
        self.assertIsNone(crowds(among=None, rows=(), expression="one", keep=[], book=FLAT))

    def test_are_crowds(self):
        keep = [("s", [])]
        good = [([(1, [("in", 1)])], [(1, [("in", 0), ("in", 1)])], []),
                ([(10 ** 99, [("in", 1)])], [(10 ** 99, [("in", 0), ("in", 1)])], [("in", 5)]),
                (((1, (("in", 1),)),), ((1, (("in", 0), ("in", 1))),), ()),
                ([(1, [("in", 1)]), (1, [("in", 1)])], [(2, [("in", 0), ("in", 1)])], []),
                ([(2, [("in", 1)]), (3, [])], [(2, [("in", 0), ("in", 1)]), (3, [("out", 0)])], []),
                ([(1, [("in", 10 ** 29)])], [(1, [("out", -10 ** 29), ("in", 0)])], [("in", 5)] * 20)]
        check_any_values(self, lambda value: are_crowds(BOOK, keep, "many", value), good)
        wrong = [([], [], []), ([(1, [("in", 1)])], [(1, [("in", 1)])], []), ([(1, [("in", 1)])], [(1, [("in", 2), ("in", 1)])], []),
                 ([(1, [("in", 1)])], [(2, [("in", 0), ("in", 1)])], []), ([(0, [("in", 1)])], [(0, [("in", 0), ("in", 1)])], []),
                 ([(-1, [("in", 1)])], [(-1, [("in", 0), ("in", 1)])], []), ([(True, [("in", 1)])], [(1, [("in", 0), ("in", 1)])], []),
                 [[(1, [("in", 1)])], [(1, [("in", 0), ("in", 1)])], []], ([(1, [("in", 1)])], [(1, [("in", 0), ("in", 1)])]),
                 ([[1, [("in", 1)]]], [(1, [("in", 0), ("in", 1)])], []), ([(1, [("in", 1)])], [(1, [("in", 0), ("in", 1)])], None),
                 ([(1, [("in", 1)])], [(1, [("in", 0), ("in", 1)])], [("no", 1)]), ([(1, [("in", 1)])], [(1, None)], []),
                 ({(1, ()): 1}, [(1, [("in", 0), ("in", 1)])], []), ([(1, [("in", 1)], 1)], [(1, [("in", 0), ("in", 1)])], []),
                 ([(1, [("in", 1)])], [], []), ({(1, (("in", 1),)): 1}, [(1, [("in", 0), ("in", 1)])], []),
                 ([(1, [("in", 1)])], {(1, (("in", 0), ("in", 1))): 1}, []),
                 # A count of 0; a house more, whose sum is 0.
                 ([(1, [("in", 1)]), (0, [])], [(1, [("in", 0), ("in", 1)])], []),
                 ([(1, [("in", 1)])], [(1, [("in", 0), ("in", 1)]), (1, [])], [])]
        for value in wrong:
            self.assertIs(are_crowds(BOOK, keep, "many", value), False, value)
        # They begin with the rows behind which they refute.
        self.assertIs(are_crowds(BOOK, keep, "many", good[1], [("in", 5)]), True)
        self.assertIs(are_crowds(BOOK, keep, "many", good[1], (("in", 5),)), True)
        self.assertIs(are_crowds(BOOK, keep, "many", good[1], [("in", 6)]), False)
        self.assertIs(are_crowds(BOOK, keep, "many", good[1], [("in", 5), ("in", 5)]), False)
        self.assertIs(are_crowds(thing=good[1], book=BOOK, keep=keep, rows=[("in", 5)], expression="many", among=None), True)
        # All rows of a crowd are let.
        own = ("in", [("in", 1)])
        self.assertIs(are_crowds(BOOK, keep, "many", good[0], among=own), False)
        self.assertIs(are_crowds(BOOK, keep, "many", ([(1, [("in", 1)])], [(1, [("out", 0), ("in", 1)])], []), among=own), True)
        self.assertIs(are_crowds(BOOK, keep, "many", ([(1, [("in", 1)])], [(1, [("out", 0), ("in", 1)])], []), among="short"), False)
        pair = [(1, [("in", 1), ("in", 0)])], [(1, [("out", 0), ("in", 1), ("in", 0)])], []
        self.assertIs(are_crowds(BOOK, keep, "many", pair, among="even"), True)
        self.assertIs(are_crowds(BOOK, keep, "many", ([(1, [("in", 1)])], [(1, [("out", 0), ("in", 1)])], []), among="even"), False)

    def test_a_square_tells_all_but_the_sign(self):
        # For one house with few rows more may be settled; for the totals of houses it is not.
        found = crowds(BOOK, [("ns", [])], "sum")
        self.assertIs(are_crowds(BOOK, [("ns", [])], "sum", found), True)
        self.assertIs(are_crowds(BOOK, [("ns", [])], "sum", ([(1, [("in", 1)])], [(1, [("in", -1)])], [])), True)

    def test_new_results(self):
        asked_out = Book(LOOPS, {}, {"a": ("cuts", "many", "sum")})
        for asked in (lambda: crowds(BOOK, KEEP, "last")[:2], lambda: to_read(BOOK, [], [("cuts", "many", "sum")]),
                      lambda: lasting(asked_out, [("a", [])])):
            kept = copy.deepcopy(asked())
            found = asked()
            for part in found if isinstance(found, tuple) else (found,):
                part[0][1].append(1)
                part.append(1)
            self.assertEqual(asked(), kept)
        behinds = record(BOOK, KEEP, "sum")[1]
        behinds[0].append(1)
        self.assertEqual(record(BOOK, KEEP, "sum")[1], ([],))


class ReadingTest(unittest.TestCase):
    def test_to_read(self):
        self.assertEqual(to_read(BOOK, KEEP, ["sum", "many"]), [])
        self.assertEqual(to_read(BOOK, [("n", [])], ["sum"]), [(0, [])])
        self.assertEqual(to_read(BOOK, [], ["sum", "many", "sum"]), [(0, []), (1, [])])
        self.assertEqual(to_read(expressions=("one",), keep=(), book=FLAT), [])
        self.assertEqual(to_read(BOOK, KEEP, ["sum", "many", "sum", "square"]), [(3, [])])
        self.assertEqual(len(to_read(BOOK, KEEP, [("cuts", "many", "sum")])), 2)
        self.assertEqual(len(to_read(BOOK, [], [("cuts", "many", "sum")])), 3)
        self.assertEqual(to_read(BOOK, [], ["sum"], among=("in", [])), [(0, [])])
        self.assertEqual(to_read(BOOK, [], [("without", "out", "sum")], among=("in", [])), [])

    def test_to_read_random(self):
        lengths = set()
        for case in cases(75, 40):
            chance = random.Random(len(case.pasts))
            asked = [case.expression] + [random_expression(chance, case.book, 4, 2) for _ in range(chance.randint(0, 2))]
            found = to_read(case.book, case.keep, asked, among=case.among)
            self.assertEqual(found, to_read(case.book, case.keep, tuple(asked), among=case.among))
            self.assertTrue(all(len(behind) < case.book.bound_of(asked[index]) for index, behind in found))
            rows = case.kept + [case.answers(behind, asked[index]) for index, behind in found]
            later = [case.answers(behind, some) for some in asked for behind in case.laters()]
            self.assertEqual(rank_of(rows), rank_of(case.kept) + len(found))
            self.assertEqual(rank_of(rows + later), rank_of(rows))
            known = all(knows(case.book, case.keep, some, among=case.among) for some in asked)
            self.assertEqual(found == [], known)
            lengths.add(len(found))
        self.assertGreater(len(lengths), 2)

    def test_lasting(self):
        self.assertEqual(lasting(BOOK, KEEP), [])
        self.assertEqual(lasting(BOOK, []), [])
        self.assertEqual(lasting(BOOK, [("l", [])]), [])
        self.assertEqual(lasting(FLAT, [("o", [])]), [])
        book = Book(LOOPS, {}, {"a": ("cuts", "many", "sum"), "b": "sum", "c": "many"})
        self.assertEqual(len(lasting(keep=[("a", [])], book=book)), 2)
        self.assertEqual(len(lasting(book, [("a", []), ("c", [])])), 1)
        self.assertEqual(len(lasting(book, [("a", []), ("b", []), ("c", [])])), 1)
        self.assertEqual(lasting(book, [("a", []), ("c", []), ("a", [("in", 1)])]), [])

    def test_lasting_random(self):
        chance = random.Random(76)
        lengths = set()
        for _ in range(40):
            book = random_questions(chance, random_book(chance, ("in", "out"), (0, 1)), 4, 2)
            keep = [(chance.choice(book.names), random_rows(chance, book.kinds, 2, 2)) for _ in range(chance.randint(0, 3))]
            found = lasting(book, keep)
            self.assertEqual(found, lasting(book, tuple(keep)))
            pasts = list(all_rows(book.kinds, (0, 1), 4)) + [random_rows(chance, book.kinds, 6) for _ in range(20)]

            def row(name, behind):
                return [plain_answer(book, book.questions[name], rows + list(behind)) for rows in pasts]

            kept = [[1] * len(pasts)] + [row(name, behind) for name, behind in keep]
            more = kept + [row(name, behind) for name, behind in found]
            self.assertEqual(rank_of(more), rank_of(kept) + len(found))
            most = max([len(behind) for _, behind in keep], default=0) + sum(book.bound(name) for name in book.names)
            for name, behind in list(keep) + found:
                self.assertLessEqual(len(behind), most)
                for kind in book.kinds:
                    for number in range(3):
                        self.assertEqual(rank_of(more + [row(name, [(kind, number)] + list(behind))]), rank_of(more))
            lengths.add(len(found))
        self.assertGreater(len(lengths), 2)

    def test_folded_on(self):
        self.assertEqual(folded_on(BOOK, KEEP, (7, 3), [("in", 5), ("out", 1)]), (11, 5))
        self.assertEqual(folded_on(rows=(), numbers=(7, 3), keep=KEEP, book=BOOK), (7, 3))
        self.assertEqual(folded_on(BOOK, [], (), [("in", 5)]), ())
        self.assertEqual(folded_on(BOOK, [("l", [])], (4,), [("out", 5)]), (4,))
        ahead = [("l", [("out", 1)]), ("s", [("in", 3)])]
        self.assertEqual(folded_on(BOOK, ahead, (4, 9), [("in", 2)]), (2, 11))
        book = Book(LOOPS, {}, {"a": ("cuts", "many", "sum"), "b": "sum"})
        self.assertRaises(NotKnown, folded_on, book, [("a", [])], (4,), [("in", 1)])
        self.assertRaises(NotKnown, folded_on, book, [("b", []), ("a", [])], (4, 4), [("in", 1)])
        chance = random.Random(77)
        for _ in range(40):
            book = random_questions(chance, random_book(chance), 4, 2)
            keep = [(name, []) for name in book.names]
            keep += lasting(book, keep)
            if len(keep) > 12 or max([len(behind) for _, behind in keep]) > 12:
                continue
            self.assertEqual(lasting(book, keep), [])
            past, rows = random_rows(chance, book.kinds), random_rows(chance, book.kinds)
            numbers = folded(book, keep, past)
            self.assertEqual(folded_on(book, keep, numbers, rows), folded(book, keep, past + rows))
            for name in book.names:
                self.assertIs(knows(book, keep, book.questions[name]), True)


class ErrorTest(unittest.TestCase):
    def calls(self, book=BOOK, keep=KEEP, numbers=(0, 0), expression="sum", rows=(), among=None):
        """Each function with those of its parameters that are checked: (keep, numbers, expression, rows, among)."""
        return [("k..r.", lambda: folded(book, keep, rows)),
                ("kner a", lambda: tell(book, keep, numbers, expression, rows, among=among)),
                ("k.er a", lambda: knows(book, keep, expression, rows, among=among)),
                ("k.e. a", lambda: record(book, keep, expression, among=among)),
                ("k.e. a", lambda: is_record(book, keep, expression, None, among=among)),
                ("k.er a", lambda: crowds(book, keep, expression, rows, among=among)),
                ("k.er a", lambda: are_crowds(book, keep, expression, None, rows, among=among)),
                ("k.x. a", lambda: to_read(book, keep, [expression], among=among)),
                ("k....", lambda: lasting(book, keep)), ("kn.r.", lambda: folded_on(book, keep, numbers, rows))]

    def check(self, error, sign, told, at="none", **wrong):
        for signs, work in self.calls(**wrong):
            if sign in signs or sign == "k":
                with self.assertRaises(error) as caught:
                    work()
                if at != "none":
                    self.assertEqual(getattr(caught.exception, told), at)

    def test_order(self):
        for value in ODD_VALUES:
            self.check(BadBook, "k", "part", None, book=value, keep=None, numbers=None, expression=None, rows=None, among=1)
            if not isinstance(value, (list, tuple)):
                self.check(BadKeep, "k", "at", None, keep=value, numbers=None, expression=None, rows=None, among=1)
            self.check(BadKeep, "k", "at", 1, keep=[("s", []), value], numbers=None, expression=None, rows=None, among=1)
        self.check(BadNumbers, "n", "", keep=KEEP, numbers=None, expression=None, rows=None, among=1)
        for sign in "ex":
            self.check(BadExpression, sign, "spot", (), expression=None, rows=None, among=1)
            self.check(BadExpression, sign, "spot", (2,), expression=("plus", LARGE, None), rows=None, among=1)
            self.check(TooMany, sign, "most", 6, expression=LARGE, rows=None, among=1)
        self.check(BadRows, "r", "at", None, rows=None, among=1)
        self.check(BadRows, "r", "at", 1, rows=[("in", 1), ("in", True)], among=1)
        self.check(BadAmong, "a", "", among=1)

    def test_keeps(self):
        for value in (("t", []), ["s", []], ("s", [], 1), ("s", [("in", 1)] * 13), ("s", [("in", True)]), ("s", None),
                      ("sum", []), ("s", [["in", 1]]), (None, [])):
            self.check(BadKeep, "k", "at", 0, keep=[value], numbers=None)
        self.check(BadKeep, "k", "at", 12, keep=[("s", [])] * 13, numbers=None)
        self.check(BadKeep, "k", "at", 12, keep=[("s", [])] * 13 + [None], numbers=None)
        self.check(BadKeep, "k", "at", 11, keep=[("s", [])] * 11 + [None] * 3, numbers=None)
        twelve = [("s", [("in", 1)] * 12)] * 12
        self.assertEqual(folded(BOOK, twelve, []), (12,) * 12)
        self.assertIs(knows(BOOK, twelve, "sum"), True)
        self.assertEqual(lasting(BOOK, twelve), [])

    def test_numbers(self):
        for value in [*ODD_VALUES, (1,), (1, 2, 3), [1, 2], (1, True), (1, None)]:
            self.check(BadNumbers, "n", "", numbers=value, expression=None, rows=None)

    def test_expressions(self):
        for value in [*ODD_VALUES, [], ["sum"] * 5, {"sum": 1}]:
            if not (isinstance(value, (list, tuple)) and 1 <= len(value) <= 4):
                self.assertRaises(BadExpressions, to_read, BOOK, KEEP, value, among=1)
        with self.assertRaises(TooMany):
            to_read(BOOK, KEEP, ["sum", LARGE, None], among=1)
        with self.assertRaises(BadExpression) as caught:
            to_read(BOOK, KEEP, ["sum", ("times", 1, "no"), LARGE], among=1)
        self.assertEqual(caught.exception.spot, (2,))
        with self.assertRaises(BadKeep):
            to_read(BOOK, None, None)


if __name__ == "__main__":
    unittest.main()
