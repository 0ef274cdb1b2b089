"""Points 40 to 43: finitely many answers, hinges, climbs, machines, wheels, patterns, common remainders."""

import copy
import random
import unittest
from itertools import product
from math import gcd

from stillknown.books import Book
from stillknown.errors import BadBook, BadExpression, BadModulus, BadNumber, BadWanted, Endless, TooMany
from stillknown.finite import (
    all_answers, climb, common, finite_paper, hinge, is_common, is_finite_paper, is_wheel, machine, pattern_of, rows_for,
    wheel,
)
from stillknown.loops import Loop
from stillknown.patterns import Pattern
from stillknown.roots import whole_roots
from stillknown.turns import are_endless, turned_apart
from tests.books import COUNT, DOUBLE, EVEN, LAST, NEVER, ONE, SHORT, SIGN, SQUARE, SUM, ZERO, same_loop
from tests.plain import ODD_VALUES, all_rows, check_any_values, plain_answer, random_book, random_expression

BOOK = Book({"sum": SUM, "many": COUNT, "sign": SIGN, "one": ONE}, {"even": EVEN, "short": SHORT, "never": NEVER},
            {"a": "sum"})
MORE = Book({"last": LAST, "double": DOUBLE, "square": SQUARE, "zero": ZERO}, {"even": EVEN, "short": SHORT},
            {"a": "last"})
TOO_LARGE = ("plus", ("cuts", "sum", "sum"), ("cuts", "sum", "sum"))
EVEN_ONE = ("only", "even", "one")
# A turn of order four, and one of order six.
QUARTER = same_loop({"x": 1, "y": 0}, {"x": (("y", 0, -1),), "y": (("x", 0, 1),)}, (("x", 0, 1),))
SIXTH = same_loop({"x": 1, "y": 0}, {"x": (("y", 0, -1),), "y": (("x", 0, 1), ("y", 0, 1))}, (("x", 0, 1),))
TURNS = Book({"quart": QUARTER, "sixth": SIXTH}, {}, {"a": "quart", "b": "sixth"})
# Rows a and b each come round, one behind the other they climb.
SHEAR = Loop({"x": 1, "y": 1}, {"a": {"x": (("x", 0, 1), ("y", 0, 2)), "y": (("y", 0, -1),)},
                                "b": {"x": (("x", 0, -1),), "y": (("y", 0, 1),)}}, (("x", 0, 1),))
PAIR = Book({"shear": SHEAR}, {}, {"a": "shear"})


# What comes in goes from the first variable to the second one, to the third one, and counts; else it is lost.
THIRD = Book({"l": Loop({"x": 0, "y": 0, "z": 0}, {
    "a": {"x": (("", 0, 1),), "y": (), "z": (("z", 0, 1),)}, "b": {"x": (), "y": (("x", 0, 1),), "z": (("z", 0, 1),)},
    "c": {"x": (), "y": (), "z": (("y", 0, 1), ("z", 0, 1))}}, (("z", 0, 1),))}, {}, {"a": "l"})
FOURTH = Book({"l": Loop({"x": 1, "y": 0, "z": 1}, {
    "a": {"x": (("z", 0, -1),), "y": (("", 0, -1),), "z": (("", 0, 1), ("x", 0, 1), ("z", 0, 1))},
    "b": {"x": (("x", 0, -1),), "y": (), "z": (("x", 0, 1),)}, "c": {"x": (), "y": (("z", 0, 1),), "z": ()}},
    (("x", 0, 1),))}, {}, {"a": "l"})
FIFTH = Book({"l": Loop({"x": 0, "y": 1, "z": 0}, {
    "a": {"x": (("", 0, -1),), "y": (("x", 0, 1),), "z": ()},
    "b": {"x": (("y", 0, -1), ("z", 0, 1)), "y": (), "z": (("x", 0, -1), ("y", 0, -1), ("z", 0, 1))}},
    (("x", 0, 1),))}, {}, {"a": "l"})


def signed(start):
    """Numbers that go round, change signs and are lost one by one; there are finitely many ways."""
    a = {"x": (("y", 0, -1),), "y": (("x", 0, 1),), "z": (("z", 0, 1),)}
    b = {"x": (("", 0, 7),), "y": (("y", 0, 1),), "z": (("z", 0, 1),)}
    c = {"x": (("y", 0, 1),), "y": (("z", 0, 1),), "z": (("x", 0, 1),)}
    loop = Loop(dict(zip("xyz", start)), {"a": a, "b": b, "c": c}, (("x", 0, 1),))
    return Book({"l": loop}, {}, {"a": "l"})


def walk(steps, rows, at=lambda line, number: line):
    """The state that rows lead to."""
    state = 0
    for kind, number in rows:
        state = at(steps[kind], number)[state]
    return state


def plain_lots(book, question, letters, behinds, most, seen=lambda answer: answer):
    """The lots of level row lists, in order, each told by its first row list; behinds must be enough."""
    lots = {}
    waiting = [[]]
    while waiting:
        rows = waiting.pop(0)
        sign = tuple(seen(plain_answer(book, question, rows + behind)) for behind in behinds)
        if sign not in lots and len(lots) < most:
            lots[sign] = rows
            waiting.extend(rows + [letter] for letter in letters)
    return list(lots.values())


def random_question(chance, kinds=("in", "out"), powers=(0,)):
    """A book and a question that often has few answers."""
    def terms(variables):
        kind = chance.random()
        if kind < 0.25:
            return (("", 0, chance.choice([-1, 1, 2])),)
        if kind < 0.8:
            return ((chance.choice(variables), 0, chance.choice([1, 1, -1])),)
        return () if kind < 0.9 else tuple(sorted([("", chance.choice(powers), 1), (variables[0], 0, -1)]))
    loops = {}
    for name, variables in (("one", ("x",)), ("two", ("x", "y"))):
        steps = {kind: {variable: terms(variables) for variable in variables} for kind in kinds}
        loops[name] = Loop({variable: chance.randint(-2, 2) for variable in variables}, steps, (("x", 0, 1),))
    book = random_book(chance, kinds)
    book = Book(loops, book.patterns, {"a": "one"})
    return book, random_expression(chance, book, 6, 3)


class HingeTest(unittest.TestCase):
    def test_ordinary(self):
        self.assertEqual(hinge(BOOK, "sum"), ([], "in", []))
        self.assertIsNone(hinge(BOOK, "many"))
        self.assertIsNone(hinge(BOOK, ("plus", "sum", ("times", -1, "sum"))))
        self.assertIsNone(hinge(BOOK, ("only", "never", "sum")))
        self.assertEqual(hinge(MORE, ("turned", "last")), ([], "in", []))
        self.assertEqual(hinge(book=MORE, question=("without", "out", "last")), ([], "in", []))
        # What comes with a is told one row later, what comes with b at once.
        later = Loop({"x": 0, "y": 0}, {"a": {"x": (("", 1, 1),), "y": (("y", 0, 1),)},
                                        "b": {"x": (), "y": (("", 1, 1), ("x", 0, 1), ("y", 0, 1))}}, (("y", 0, 1),))
        self.assertEqual(hinge(Book({"l": later}, {}, {"a": "l"}), "l"), ([], "b", []))
        # The number is read by the rows behind alone, one of them at least.
        ahead, kind, behind = hinge(BOOK, ("only", "even", "sum"))
        self.assertEqual(len(ahead) + len(behind), 0 if kind == "out" else 1)

    def test_shortest(self):
        chance = random.Random(42)
        found = 0
        for _ in range(60):
            book, question = random_question(chance, powers=(0, 1))
            shown = hinge(book, question)
            degree = book.degree_of(question)
            if shown is None:
                for rows in all_rows(book.kinds, (0, 1, 3), 4):
                    flat = [(kind, 0) for kind, _ in rows]
                    self.assertEqual(plain_answer(book, question, rows), plain_answer(book, question, flat))
                continue
            found += 1
            self.assertEqual(shown, hinge(book, question))
            ahead, kind, behind = shown
            self.assertTrue(isinstance(ahead, list) and isinstance(behind, list))
            self.assertTrue(self.is_hinge(book, question, ahead, kind, behind, degree))
            shorter = [rows for rows in all_rows(book.kinds, range(degree + 1), len(ahead) + len(behind))]
            for rows in shorter[:60]:
                for cut, some in product(range(len(rows) + 1), book.kinds):
                    self.assertFalse(self.is_hinge(book, question, rows[:cut], some, rows[cut:], degree))
        self.assertGreater(found, 5)

    def is_hinge(self, book, question, ahead, kind, behind, degree):
        return len({plain_answer(book, question, ahead + [(kind, t)] + behind) for t in range(degree + 1)}) > 1


class ClimbTest(unittest.TestCase):
    def check(self, book, question, most):
        ahead, rows, behind = climb(book, question)
        self.assertTrue(1 <= len(rows) <= most)
        self.assertTrue(all(isinstance(part, list) and len(part) <= 40 for part in (ahead, rows, behind)))
        self.assertEqual({number for _, number in ahead + rows + behind}, {0})
        answers = {plain_answer(book, question, ahead + rows * k + behind) for k in range(30)}
        self.assertGreater(len(answers), 20)
        self.assertTrue(is_finite_paper(book, question, ("climb", (ahead, rows, behind))))

    def test_ordinary(self):
        self.check(BOOK, "many", 1)
        self.check(MORE, "double", 1)
        self.check(BOOK, ("cuts", "one", "one"), 1)
        self.check(BOOK, ("both", "many", "sign"), 1)
        self.check(PAIR, "shear", 2)
        # With no rows behind it is 1 for ever; a row of b brings out how many rows of a there were.
        late = Loop({"x": 1, "n": 0}, {"a": {"x": (("x", 0, 1),), "n": (("", 0, 1), ("n", 0, 1))},
                                       "b": {"x": (("n", 0, 1),), "n": (("n", 0, 1),)}}, (("x", 0, 1),))
        self.check(Book({"l": late}, {}, {"a": "l"}), "l", 1)
        self.assertEqual(climb(book=PAIR, question="shear"), climb(PAIR, "shear"))

    def test_none(self):
        for book, question in ((BOOK, "sign"), (BOOK, EVEN_ONE), (MORE, "zero"), (TURNS, "quart"),
                               (TURNS, ("plus", "sixth", "quart")), (BOOK, ("only", "short", "many")),
                               # With all numbers 0 there is nothing to add up.
                               (BOOK, "sum"), (MORE, "last"), (MORE, "square")):
            self.assertIsNone(climb(book, question))

    def test_climbs_of_one_to_four_rows(self):
        for many, book in ((1, BOOK), (2, PAIR), (3, THIRD), (4, FOURTH)):
            question = "many" if many == 1 else book.questions["a"]
            self.check(book, question, many)
            _, rows, _ = climb(book, question)
            self.assertEqual(len(rows), many)
            # No fewer rows climb, whatever stands around them.
            for length in range(1, many):
                for word in product(book.kinds, repeat=length):
                    for around in all_rows(book.kinds, (0,), 3):
                        for cut in range(len(around) + 1):
                            told = around[:cut], [(kind, 0) for kind in word], around[cut:]
                            self.assertFalse(is_finite_paper(book, question, ("climb", told)))

    def test_sequences(self):
        for terms, table, endless in [
                ((1, 0), ((1, 1), (0, 1)), True), ((1, 0), ((0, 1), (-1, 0)), False), ((1, 0), ((0, 1), (-1, 1)), False),
                ((1, 0), ((0, 1), (1, 1)), True), ((1, 0), ((0, 0), (1, 0)), False), ((1, 1), ((-1, 0), (0, 1)), False),
                ((0, 0), ((5, 1), (7, 2)), False), ((1, 0), ((-1, 1), (0, -1)), True), ((1, 0), ((25, 1), (0, 1)), True),
                ((0, 1), ((0, 1), (-1, 2)), False), ((0, 1), ((1, 1), (0, 1)), False)]:
            self.assertIs(are_endless(terms, table, (1, 1)), endless, (terms, table))
        # Six numbers that go round in turns of five and of two, and in turns of seven.
        five = ((0, 1, 0, 0, 0, 0), (0, 0, 1, 0, 0, 0), (0, 0, 0, 1, 0, 0), (-1, -1, -1, -1, 0, 0), (0, 0, 0, 0, 0, 1),
                (0, 0, 0, 0, 1, 0))
        seven = tuple(tuple(1 if j == i + 1 else 0 for j in range(6)) for i in range(5)) + ((-1,) * 6,)
        nine = tuple(tuple(1 if j == i + 1 else 0 for j in range(6)) for i in range(5)) + ((-1, 0, 0, -1, 0, 0),)
        late = tuple(tuple(1 if j == i + 1 else 0 for j in range(6)) for i in range(6))
        for table in (five, seven, nine, late):
            self.assertIs(are_endless((1, 2, 0, 5, 1, 0), table, (1, 0, 3, 0, 0, 7)), False)
        eight = five[:3] + ((-1, 0, 0, 0, 0, 0), (0, 0, 0, 0, 0, 1), (0, 0, 0, 0, -1, -1))
        for table in (five, seven, nine, late, eight):
            self.assertIsNone(turned_apart(table))
            self.assertIs(are_endless((1, 2, 0, 5, 1, 0), table, (1, 0, 3, 0, 0, 7)), False)
        for table in (((1, 1), (0, 1)), ((0, 1), (1, 1)), ((-1, 1), (0, -1)), ((2,),), ((0, 1), (-1, 2))):
            self.assertIsNotNone(turned_apart(table))
        self.assertIsNone(turned_apart(()))
        grows = nine[:5] + ((-1, 0, 0, -1, 0, 1),)
        self.assertIs(are_endless((1, 2, 0, 5, 1, 0), grows, (1, 0, 3, 0, 0, 7)), True)
        far = 10 ** 29
        self.assertIs(are_endless((far, 1), ((-1, far), (0, 1)), (1, far)), False)
        self.assertIs(are_endless((far, 1), ((1, far), (0, 1)), (1, far)), True)


class MachineTest(unittest.TestCase):
    def test_known(self):
        self.assertEqual(machine(BOOK, "sign"), ((1, -1), {"in": (1, 0), "out": (0, 1)}))
        self.assertEqual(machine(BOOK, EVEN_ONE), ((1, 0), {"in": (1, 0), "out": (0, 1)}))
        self.assertEqual(machine(BOOK, ("times", 0, "sum")), ((0,), {"in": (0,), "out": (0,)}))
        self.assertEqual(machine(MORE, "zero"), ((0,), {"in": (0,), "out": (0,)}))
        self.assertEqual(machine(BOOK, ("only", "short", "many")), ((0, 1, 0), {"in": (1, 2, 2), "out": (1, 2, 2)}))
        self.assertEqual(list(machine(BOOK, "sign")[1]), ["in", "out"])
        for question in ("sum", "many", ("both", "many", "sign")):
            self.assertIsNone(machine(BOOK, question))
            self.assertIsNone(all_answers(BOOK, question))
        self.assertEqual(all_answers(BOOK, "sign"), (-1, 1))
        self.assertEqual(all_answers(book=TURNS, question=("plus", "sixth", ("times", 3, "quart"))), tuple(range(-4, 5)))
        self.assertEqual(len(machine(TURNS, ("plus", "sixth", "quart"))[0]), 12)

    def test_against_a_plain_search(self):
        chance = random.Random(41)
        machines = 0
        for _ in range(120):
            book, question = random_question(chance)
            found = machine(book, question)
            self.assertEqual(finite_paper(book, question)[0] == "machine", found is not None)
            if found is None:
                self.assertTrue(hinge(book, question) is not None or climb(book, question) is not None)
                continue
            machines += 1
            answers, steps = found
            self.assertEqual(found, machine(book, question))
            for rows in all_rows(book.kinds, (0, 5), 5):
                self.assertEqual(answers[walk(steps, rows)], plain_answer(book, question, rows))
            if len(answers) < 12:
                letters = [(kind, 0) for kind in book.kinds]
                lots = plain_lots(book, question, letters, list(all_rows(book.kinds, (0,), 5)), 40)
                self.assertEqual([walk(steps, rows) for rows in lots], list(range(len(answers))))
            self.assertEqual(all_answers(book, question), tuple(sorted(set(answers))))
            self.assertTrue(is_finite_paper(book, question, ("machine", found)))
        self.assertGreater(machines, 60)

    def test_many_states(self):
        for start, many in (((1, 1, 3), 152), ((0, 2, 3), 188)):
            book = signed(start)
            answers, steps = machine(book, "l")
            self.assertEqual(len(answers), many)
            self.assertEqual(all_answers(book, "l"), tuple(sorted(set(answers))))
            self.assertIs(is_finite_paper(book, "l", ("machine", (answers, steps))), True)
            self.assertEqual(rows_for(book, "l", 7), [("b", 0)])

    def test_more_than_two_hundred(self):
        small = ("machine", ((0,), {"a": (0,), "b": (0,), "c": (0,)}))
        # The first one has 248 states, the other one endlessly many answers, but no climb of four rows.
        for book in (signed((1, 2, 3)), FIFTH):
            for asked in (machine, all_answers, finite_paper, lambda book, question: rows_for(book, question, 1)):
                with self.assertRaises(TooMany) as caught:
                    asked(book, "l")
                self.assertEqual(caught.exception.most, 200)
            self.assertIsNone(hinge(book, "l"))
            self.assertIsNone(climb(book, "l"))
            self.assertIs(is_finite_paper(book, "l", small), False)
        # What is no number is seen ahead.
        self.assertRaises(BadNumber, rows_for, FIFTH, "l", None)

    def test_rows_for(self):
        self.assertEqual(rows_for(BOOK, "sign", 1), [])
        self.assertEqual(rows_for(BOOK, "sign", -1), [("in", 0)])
        self.assertIsNone(rows_for(BOOK, "sign", 0))
        self.assertEqual(rows_for(BOOK, ("only", "short", "many"), 1), [("in", 0)])
        self.assertEqual(rows_for(book=TURNS, number=-1, question="quart"), [("in", 0)] * 2)
        chance = random.Random(40)
        for _ in range(50):
            book, question = random_question(chance)
            if machine(book, question) is None:
                self.assertRaises(Endless, rows_for, book, question, 0)
                continue
            for number in (*all_answers(book, question), 77):
                rows = rows_for(book, question, number)
                plain = [some for some in all_rows(book.kinds, (0,), 6) if plain_answer(book, question, some) == number]
                if plain or rows is None or len(rows) < 6:
                    self.assertEqual(rows, plain[0] if plain else None)

    def test_errors(self):
        for value in ODD_VALUES:
            for asked in (hinge, climb, machine, all_answers, finite_paper, common):
                self.assertRaises(BadBook, asked, value, None)
            for asked in (rows_for, is_finite_paper, is_common):
                self.assertRaises(BadBook, asked, value, None, None)
        for asked in (hinge, climb, machine, all_answers, finite_paper, common, lambda *told: rows_for(*told, None),
                      lambda *told: is_finite_paper(*told, None), lambda *told: is_common(*told, None),
                      lambda *told: wheel(*told, None), lambda *told: is_wheel(*told, None, None),
                      lambda *told: pattern_of(*told, None, None)):
            with self.assertRaises(BadExpression) as caught:
                asked(BOOK, ("plus", TOO_LARGE, ("times", 10, "sum")))
            self.assertEqual(caught.exception.spot, (2,))
            with self.assertRaises(TooMany) as caught:
                asked(BOOK, TOO_LARGE)
            self.assertEqual(caught.exception.most, 6)
        for value in ODD_VALUES:
            if isinstance(value, int) and not isinstance(value, bool):
                self.assertRaises(Endless, rows_for, BOOK, "sum", value)
                continue
            for question in ("sum", "sign"):
                with self.assertRaises(BadNumber) as caught:
                    rows_for(BOOK, question, value)
                self.assertEqual(caught.exception.part, "number")


class PaperTest(unittest.TestCase):
    def test_words(self):
        self.assertEqual(finite_paper(BOOK, "sign"), ("machine", machine(BOOK, "sign")))
        self.assertEqual(finite_paper(BOOK, "sum"), ("hinge", hinge(BOOK, "sum")))
        self.assertEqual(finite_paper(BOOK, "many"), ("climb", climb(BOOK, "many")))
        # A hinge stands ahead of a climb.
        both = ("plus", "sum", "many")
        self.assertIsNotNone(climb(BOOK, both))
        self.assertEqual(finite_paper(book=BOOK, question=both)[0], "hinge")

    def test_machines(self):
        signs = ((1, -1), {"in": (1, 0), "out": (0, 1)})
        good = [("machine", signs), ("machine", ((1, -1), {"out": (0, 1), "in": (1, 0)})),
                # More states than are needed, some of which are never come to.
                ("machine", ((1, -1, 1, -1), {"in": (1, 2, 3, 0), "out": (2, 3, 0, 1)})),
                ("machine", ((1, -1, 7), {"in": (1, 0, 2), "out": (0, 1, 0)})),
                ("machine", ((1,) + (-1,) * 199, {"in": (199,) + (0,) * 199, "out": tuple(range(200))}))]
        check_any_values(self, lambda value: is_finite_paper(BOOK, "sign", value), good)
        wrong = [("machine", ((1,) + (-1,) * 200, {"in": (200,) + (0,) * 200, "out": tuple(range(201))})),
                 ("machine", ((1, 1), signs[1])), ("machine", ((-1, 1), signs[1])), ("machine", ((1, -1), {"in": (1, 0)})),
                 ("machine", ((1, -1), {"in": (1, 0), "out": (0, 1), "no": (0, 0)})), ("machine", ([1, -1], signs[1])),
                 ("machine", ((1, -1), {"in": [1, 0], "out": (0, 1)})), ("machine", ((1, -1), {"in": (1, 0), "out": (0, 2)})),
                 ("machine", ((1, -1), {"in": (1, 0), "out": (0, True)})), ("machine", ((1, -1), {"in": (1, 0), "out": (0,)})),
                 ("machine", ((True, -1), signs[1])), ("machine", ((), {"in": (), "out": ()})), ("machine", signs + (1,)),
                 ("hinge", signs), ("climb", signs), ["machine", signs], ("machine",), ("machine", signs, 1),
                 ("machine", ((1, -1), {"in": (1, 0), "out": (1, 0)})), ("machine", ((1, -1), {"in": (0, 1), "out": (0, 1)})),
                 ("machine", ((1, -1), {1: (1, 0), 2: (0, 1)})), ("machine", (1, -1)), ("machine", ((1, -1), [(1, 0), (0, 1)])),
                 ("machine", ((1, -1, 1), {"in": (1, 2, 2), "out": (0, 1, 2)})), ("machine", ((1, -1), ("in", "out"))),
                 ("machine", ((1, -1), "inout")), (None, signs), (["machine"], signs)]
        for value in wrong:
            self.assertIs(is_finite_paper(BOOK, "sign", value), False, value)
        self.assertIs(is_finite_paper(thing=good[0], question="sign", book=BOOK), True)
        self.assertIs(is_finite_paper(BOOK, "sum", ("machine", ((0,), {"in": (0,), "out": (0,)}))), False)
        self.assertIs(is_finite_paper(MORE, "zero", ("machine", ((0,), {"in": (0,), "out": (0,)}))), True)

    def test_hinges(self):
        far = [("in", 10 ** 29)] * 40
        for value in [([], "in", []), (far, "out", far), ((), "in", (("out", 3),))]:
            self.assertIs(is_finite_paper(BOOK, "sum", ("hinge", value)), True)
            self.assertIs(is_finite_paper(BOOK, "many", ("hinge", value)), False)
        for value in [*ODD_VALUES, ([], "no", []), ([("in", 1)] * 41, "in", []), ([], "in", [("in", 1)] * 41), [[], "in", []],
                      ([], "in"), ([], "in", [], []), ([], ("in", 0), []), ([("in", True)], "in", []), (None, "in", []),
                      ([], ["in"], [])]:
            self.assertIs(is_finite_paper(BOOK, "sum", ("hinge", value)), False, value)
        # The number that stands last is told; another one in that came ahead of it is not.
        self.assertIs(is_finite_paper(MORE, "last", ("hinge", ([("in", 5)], "in", [("out", 1)]))), True)
        self.assertIs(is_finite_paper(MORE, "last", ("hinge", ([], "in", [("in", 1)]))), False)
        self.assertIs(is_finite_paper(MORE, "last", ("hinge", ([], "out", []))), False)

    def test_climbs(self):
        far = [("in", 10 ** 29)]
        for value in [([], [("in", 0)], []), ([], [("out", 7)] * 4, far), (far * 40, far * 4, far * 40),
                      ((), (("in", 3), ("out", 1)), ())]:
            self.assertIs(is_finite_paper(BOOK, "many", ("climb", value)), True)
            self.assertIs(is_finite_paper(BOOK, "sign", ("climb", value)), False)
        for value in [*ODD_VALUES, ([], [], []), ([], [("in", 0)] * 5, []), ([("in", 0)] * 41, [("in", 0)], []),
                      ([], [("in", 0)], [("in", 0)] * 41), [[], [("in", 0)], []], ([], [("in", 0)]), ([], [("in", True)], []),
                      ([], [("no", 0)], []), ([], ("in", 0), []), ([], [("in", 0)], [], [])]:
            self.assertIs(is_finite_paper(BOOK, "many", ("climb", value)), False, value)
        for word in ("hinge", "machine", "what", ""):
            self.assertIs(is_finite_paper(BOOK, "many", (word, ([], [("in", 0)], []))), False)
        # All rows behind count, in their order.
        for behind, told in [([("in", 0), ("out", 1)], False), ([("out", 1), ("in", 0)], False), ([("in", 2), ("out", 1)], True),
                             ([("in", 0), ("in", 2)], True), ([("in", 2), ("in", 0)], False)]:
            shown = "climb", ([], [("out", 3)], behind)
            self.assertIs(is_finite_paper(MORE, ("both", "double", "last"), shown), told)
        # Numbers other than 0 may make it climb; those that cancel do not.
        self.assertIs(is_finite_paper(BOOK, "sum", ("climb", ([], [("in", 1)], []))), True)
        self.assertIs(is_finite_paper(BOOK, "sum", ("climb", ([], [("in", 0)], []))), False)
        self.assertIs(is_finite_paper(BOOK, "sum", ("climb", ([], [("in", 10 ** 29), ("out", 10 ** 29)], []))), False)
        self.assertIs(is_finite_paper(BOOK, "sum", ("climb", ([], [("in", 10 ** 29), ("out", 10 ** 29 - 1)], []))), True)
        self.assertIs(is_finite_paper(MORE, ("both", "double", "last"), ("climb", ([], [("out", 3)], []))), False)
        self.assertIs(is_finite_paper(MORE, ("both", "double", "last"), ("climb", ([("in", 1)], [("out", 3)], []))), True)

    def test_new_results(self):
        for asked in (lambda: finite_paper(BOOK, "sign"), lambda: machine(BOOK, "sign"), lambda: wheel(BOOK, "sign", 3)):
            kept = copy.deepcopy(asked())
            found = asked()
            (found[1][1] if found[0] == "machine" else found[1]).clear()
            self.assertEqual(asked(), kept)
        for asked in (lambda: hinge(BOOK, "sum")[0], lambda: climb(BOOK, "many")[1], lambda: rows_for(BOOK, "sign", -1),
                      lambda: common(BOOK, "many")[2]):
            kept = copy.deepcopy(asked())
            asked().append(1)
            self.assertEqual(asked(), kept)


class WheelTest(unittest.TestCase):
    def test_known(self):
        self.assertEqual(wheel(BOOK, "many", 2), ((0, 1), {"in": ((1, 0), (1, 0)), "out": ((1, 0), (1, 0))}))
        self.assertEqual(wheel(BOOK, "sum", 2), ((0, 1), {"in": ((0, 1), (1, 0)), "out": ((0, 1), (1, 0))}))
        self.assertEqual(wheel(BOOK, "sign", 2), ((1,), {"in": ((0,), (0,)), "out": ((0,), (0,))}))
        self.assertEqual(wheel(BOOK, ("times", 3, "sum"), 3), ((0,), {"in": ((0,),) * 3, "out": ((0,),) * 3}))
        self.assertEqual(len(wheel(book=BOOK, modulus=12, question="sum")[0]), 12)
        # The halves of what is always even: two of them are one for the modulus 4.
        self.assertEqual(wheel(BOOK, ("times", 2, "sum"), 4)[0], (0, 2))
        self.assertEqual(len(wheel(MORE, "square", 4)[0]), 4)

    def test_against_a_plain_search(self):
        chance = random.Random(43)
        for _ in range(60):
            modulus = chance.choice([2, 3, 4, 6, 8, 9, 12])
            book = random_book(chance, powers=(0, 1, 2))
            question = random_expression(chance, book, 5, 3)
            try:
                found = wheel(book, question, modulus)
            except TooMany as error:
                self.assertEqual(error.most, 200)
                continue
            remainders, steps = found
            self.assertEqual(found, wheel(book, question, modulus))
            self.assertTrue(is_wheel(book, question, modulus, found))
            for _ in range(40):
                rows = [(chance.choice(book.kinds), chance.randint(-30, 30)) for _ in range(chance.randint(0, 5))]
                state = walk(steps, rows, lambda line, number: line[number % modulus])
                self.assertEqual(remainders[state], plain_answer(book, question, rows) % modulus)
            self.in_order(steps, len(remainders), [(kind, r) for kind in book.kinds for r in range(modulus)], modulus)
            self.apart(remainders, steps)

    def in_order(self, steps, many, letters, modulus):
        """All states are come to first in the order of their numbers."""
        seen, waiting = [0], [0]
        while waiting:
            state = waiting.pop(0)
            for kind, r in letters:
                to = steps[kind][r][state]
                if to not in seen:
                    seen.append(to)
                    waiting.append(to)
        self.assertEqual(seen, list(range(many)))

    def apart(self, remainders, steps):
        """No two states lead to the same remainders for ever."""
        marks = {(i, j) for i in range(len(remainders)) for j in range(i) if remainders[i] != remainders[j]}
        lines = [line for lists in steps.values() for line in lists]
        while True:
            more = {(i, j) for i in range(len(remainders)) for j in range(i) if (i, j) not in marks
                    and any((max(line[i], line[j]), min(line[i], line[j])) in marks for line in lines)}
            if not more:
                break
            marks |= more
        self.assertEqual(len(marks), len(remainders) * (len(remainders) - 1) // 2)

    def test_too_many(self):
        with self.assertRaises(TooMany) as caught:
            wheel(BOOK, ("cuts", "many", "sum"), 12)
        self.assertEqual(caught.exception.most, 200)
        with self.assertRaises(TooMany):
            pattern_of(BOOK, ("cuts", "many", "sum"), 12, [])
        self.assertIs(is_wheel(BOOK, ("cuts", "many", "sum"), 12, ((0,), {"in": ((0,),) * 12, "out": ((0,),) * 12})), False)

    def test_is_wheel(self):
        good = [wheel(BOOK, "sum", 2), ((0, 1, 0, 1), {"in": ((2, 3, 0, 1), (1, 2, 3, 0)), "out": ((0, 1, 2, 3), (3, 0, 1, 2))}),
                ((0, 1, 1), {"out": ((0, 1, 0), (1, 0, 0)), "in": ((0, 1, 2), (1, 0, 2))})]
        check_any_values(self, lambda value: is_wheel(BOOK, "sum", 2, value), good)
        line = ((0, 1), (1, 0))
        wrong = [((0, 1), {"in": line}), ((0, 1), {"in": line, "out": line, "no": line}), ((0, 1), {"in": line, "out": line[:1]}),
                 ((1, 0), {"in": line, "out": line}), ((0, 2), {"in": line, "out": line}), ((0, True), {"in": line, "out": line}),
                 ([0, 1], {"in": line, "out": line}), [(0, 1), {"in": line, "out": line}], ((0, 1), {"in": line, "out": list(line)}),
                 ((0, 1), {"in": line, "out": ((0, 1), [1, 0])}), ((0, 1), {"in": line, "out": ((0, 1), (1, 2))}),
                 ((0, 1), {"in": line, "out": ((0, 1), (1, -1))}), ((0, 1), {"in": line, "out": ((0, 1), (True, 0))}),
                 ((0, 1), {"in": line, "out": line[::-1]}), ((0, -1), {"in": line, "out": line}),
                 ((0,) + (1,) * 200, {"in": ((0,) * 201,) * 2, "out": ((0,) * 201,) * 2}), ((), {"in": ((), ()), "out": ((), ())}),
                 ((0, 1), {"in": line, "out": line}, 1), ((0, 1), {"in": line * 2, "out": line}), ((0, 1), ("in", "out")),
                 # A state that is never come to, with a remainder that there is not.
                 ((0, 1, 2), {"in": ((0, 1, 2), (1, 0, 2)), "out": ((0, 1, 2), (1, 0, 2))}),
                 ((0, 1, -1), {"in": ((0, 1, 2), (1, 0, 2)), "out": ((0, 1, 2), (1, 0, 2))})]
        for value in wrong:
            self.assertIs(is_wheel(BOOK, "sum", 2, value), False, value)
        many = ((0,) + (1,) * 199, {kind: (tuple(range(200)), (199,) + (0,) * 199) for kind in ("in", "out")})
        self.assertIs(is_wheel(BOOK, "sum", 2, many), True)
        self.assertIs(is_wheel(thing=good[0], modulus=2, question="sum", book=BOOK), True)
        self.assertIs(is_wheel(BOOK, "sum", 3, good[0]), False)

    def test_bad_modulus(self):
        for value in [*ODD_VALUES, 1, 13, -2]:
            self.assertRaises(BadModulus, wheel, BOOK, "sum", value)
            self.assertRaises(BadModulus, is_wheel, BOOK, "sum", value, None)
            self.assertRaises(BadModulus, pattern_of, BOOK, "sum", value, None)


class PatternTest(unittest.TestCase):
    def test_known(self):
        self.assertEqual(pattern_of(BOOK, "many", 2, [0]), Pattern({"in": [1, 0], "out": [1, 0]}, [0]))
        self.assertEqual(pattern_of(BOOK, "many", 2, (1,)), Pattern({"in": [1, 0], "out": [1, 0]}, [1]))
        self.assertEqual(pattern_of(BOOK, "many", 2, []), Pattern({"in": [0], "out": [0]}, []))
        self.assertEqual(pattern_of(BOOK, "many", 2, [1, 0]), Pattern({"in": [0], "out": [0]}, [0]))
        self.assertEqual(pattern_of(BOOK, EVEN_ONE, 5, [1]), EVEN)
        self.assertIsNone(pattern_of(BOOK, "sum", 2, [0]))
        self.assertEqual(pattern_of(BOOK, "sum", 2, [0, 1]), Pattern({"in": [0], "out": [0]}, [0]))
        self.assertEqual(pattern_of(BOOK, "many", 4, [3]).states, 4)
        self.assertIsNone(pattern_of(BOOK, "many", 5, [3]))
        self.assertEqual(pattern_of(BOOK, "many", 6, [1, 3, 5]).states, 2)
        self.assertEqual(pattern_of(wanted=[1, 3, 5, 7, 9, 11], modulus=12, question="many", book=BOOK).states, 2)
        # The remainders hang on numbers, but not whether they are wanted.
        self.assertEqual(pattern_of(BOOK, ("plus", ("times", 2, "sum"), "many"), 4, [1, 3]).states, 2)

    def test_random(self):
        chance = random.Random(44)
        found = 0
        for at in range(80):
            book, question = random_question(chance, powers=(0, 1) if at % 4 == 0 else (0,))
            modulus = chance.choice([2, 3, 4, 6])
            wanted = [r for r in range(modulus) if chance.random() < 0.5]
            try:
                pattern = pattern_of(book, question, modulus, wanted)
            except TooMany:
                continue
            fits = {}
            for rows in all_rows(book.kinds, (0, 1), 5):
                fits.setdefault(tuple(kind for kind, _ in rows), set()).add(
                    plain_answer(book, question, rows) % modulus in wanted)
            letters = [(kind, 0) for kind in book.kinds]
            words = plain_lots(book, question, letters, list(all_rows(book.kinds, (0,), 4)), 9,
                               lambda answer: answer % modulus in wanted)
            if pattern is None:
                self.assertTrue(len(words) > 4 or hinge(book, question) is not None)
                continue
            found += 1
            for kinds, told in fits.items():
                self.assertEqual(told, {pattern.fits([(kind, 0) for kind in kinds])})
            self.assertEqual([walk(pattern.steps, rows) for rows in words], list(range(pattern.states)))
        self.assertGreater(found, 30)

    def test_bad_wanted(self):
        for value in [*ODD_VALUES, [3], [-1], [1, 1], [True], [0, False], (0, 1, 2, 0), {0: 1}, [None], ["a"]]:
            if value != [] and value != ():
                self.assertRaises(BadWanted, pattern_of, BOOK, "sum", 3, value)
        # What is wanted is looked at ahead of what is too many.
        self.assertRaises(BadWanted, pattern_of, BOOK, ("cuts", "many", "sum"), 12, [12])


class CommonTest(unittest.TestCase):
    def test_known(self):
        for book, question, modulus, remainder in [
                (BOOK, "sum", 1, 0), (BOOK, ("times", 6, "sum"), 6, 0), (BOOK, "sign", 2, 1), (BOOK, "one", 0, 1),
                (BOOK, ("plus", ("times", 6, "sum"), ("times", -2, "one")), 6, 4), (MORE, "zero", 0, 0),
                (BOOK, ("times", -5, "one"), 0, -5), (BOOK, ("plus", ("times", 4, "sum"), ("times", 6, "many")), 2, 0),
                (BOOK, ("plus", ("both", "sum", "sum"), "sum"), 2, 0), (MORE, ("plus", "double", "square"), 1, 0)]:
            found = common(book, question)
            self.assertEqual(found[:2], (modulus, remainder))
            self.assertEqual(found, common(book=book, question=question))
            self.assertEqual(found[2][0], [])
            self.assertTrue(is_common(book, question, found))

    def test_random(self):
        chance = random.Random(45)
        for _ in range(100):
            book = random_book(chance)
            question = random_expression(chance, book, 6)
            modulus, remainder, shown = common(book, question)
            self.assertTrue(1 <= len(shown) <= 60 and all(len(rows) <= 40 for rows in shown))
            answers = [plain_answer(book, question, rows) for rows in shown]
            self.assertEqual(gcd(*[answer - answers[0] for answer in answers]), modulus)
            for _ in range(20):
                rows = [(chance.choice(book.kinds), chance.randint(-9, 9)) for _ in range(chance.randint(0, 5))]
                answer = plain_answer(book, question, rows)
                self.assertEqual(answer if modulus == 0 else answer % modulus, remainder)

    def test_is_common(self):
        six = ("times", 6, "sum")
        one = [("in", 1)]
        good = [(6, 0, [[], one]), (6, 0, ([], one)), (6, 0, [(), [("in", 2)], [("out", 3)]]), (6, 0, [[]] * 59 + [one]),
                (6, 0, [[], [("in", 1)] + [("in", 5)] * 39, [("in", 3), ("out", 10 ** 29)] * 2, one])]
        check_any_values(self, lambda value: is_common(BOOK, six, value), good)
        wrong = [(6, 0, [one, []]), (6, 0, []), (6, 0, [[]]), (6, 0, [[], [("in", 2)]]), (3, 0, [[], one]), (6, 6, [[], one]),
                 (6, 0, [[]] * 60 + [one]), (6, 0, [[], one, [("in", 1)] * 41]), (6, False, [[], one]), (True, 0, [[], one]),
                 [6, 0, [[], one]], (6, 0), (6, 0, [[], one], 1), (6, 0, [[], [("in", True)]]), (6, 0, [[], None]),
                 (6, 0, {}), (-6, 0, [[], one]), (12, 0, [[], [("in", 2)]]), (6, None, [[], one])]
        for value in wrong:
            self.assertIs(is_common(BOOK, six, value), False, value)
        for value in [(0, 1, [[]]), (0, 1, ((), one, one)), (0, 1, [[]] * 60)]:
            self.assertIs(is_common(BOOK, "one", value), True)
        for value in [(0, 0, [[]]), (0, 1, []), (1, 0, [[]]), (0, 1, [one]), (0, 1, [[]] * 61), (False, 1, [[]]), (0, True, [[]]),
                      (0, 1, {(): 1}), (0, 1, "")]:
            self.assertIs(is_common(BOOK, "one", value), False)
        self.assertIs(is_common(BOOK, "sum", (1, 0, [[], one])), True)
        self.assertIs(is_common(thing=(1, 0, [[], [("in", 2)], [("in", 3)]]), question="sum", book=BOOK), True)
        self.assertIs(is_common(BOOK, "sum", (1, 1, [[], one])), False)


class RootsTest(unittest.TestCase):
    def times(self, roots, factor=1):
        out = [factor]
        for root in roots:
            out = [(out[k - 1] if k else 0) - (root * out[k] if k < len(out) else 0) for k in range(len(out) + 1)]
        return out

    def test_roots(self):
        far = 10 ** 40
        for roots in [[], [0], [5], [-3, 5], [1, 2, 3, 4], [0, 0, 1], [2, 2], [-far, far], [far, far + 1, far + 2, 0],
                      [-1, -1, -1], [7, 7, -7, -7]]:
            self.assertEqual(whole_roots(self.times(roots, -3)), sorted(set(roots)))
            self.assertEqual(whole_roots(self.times(roots, 2) + [0, 0]), sorted(set(roots)))
        self.assertIsNone(whole_roots([]))
        self.assertIsNone(whole_roots([0, 0]))
        self.assertEqual(whole_roots([-1, 2]), [])
        self.assertEqual(whole_roots([2, 0, 1]), [])
        chance = random.Random(46)
        for _ in range(500):
            polynomial = [chance.randint(-12, 12) for _ in range(chance.randint(1, 5))]
            if any(polynomial):
                plain = [x for x in range(-30, 31) if sum(c * x ** p for p, c in enumerate(polynomial)) == 0]
                self.assertEqual(whole_roots(polynomial), plain)


if __name__ == "__main__":
    unittest.main()
