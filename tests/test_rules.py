"""Point 23: paths and rules."""

import random
import unittest

from stillknown.books import Book
from stillknown.errors import BadBook, BadExpression, BadPath, BadRule, TooMany
from stillknown.least import alike
from stillknown.loops import Loop
from stillknown.ownforms import built_form
from stillknown.leastforms import same_answers
from stillknown.patterns import Pattern
from stillknown.rules import applied, rewritten, rules_at
from tests.plain import ODD_VALUES, plain_answer, random_book, random_expression

ONE = Loop({"x": 1}, {kind: {"x": (("x", 0, 1),)} for kind in ("in", "out")}, (("x", 0, 1),))
STEP = {kind: {"x": (("", 1, 1), ("x", 0, 2))} for kind in ("in", "out")}
E, F, G = "e", "f", "g"
LOOPS = {"e": Loop({"x": 1}, STEP, (("x", 0, 1),)), "f": Loop({"x": -2}, STEP, (("", 0, 1), ("x", 0, 1))), "g": ONE}
EVEN = Pattern({"in": [1, 0], "out": [0, 1]}, [0])
ALL = Pattern({"in": [0], "out": [0]}, [0])
BOOK = Book(LOOPS, {"all": ALL, "even": EVEN, "p": ALL}, {"a": "e"})

# The name of a rule, an expression, and what it becomes.
STEPS = [
    ("swap", ("plus", E, F), ("plus", F, E)),
    ("swap", ("both", E, F), ("both", F, E)),
    ("regroup", ("plus", ("plus", E, F), G), ("plus", E, ("plus", F, G))),
    ("regroup", ("both", ("both", E, "g"), G), ("both", E, ("both", "g", G))),
    ("regroup", ("cuts", ("cuts", E, F), G), ("cuts", E, ("cuts", F, G))),
    ("spread", ("both", ("plus", E, F), G), ("plus", ("both", E, G), ("both", F, G))),
    ("spread", ("cuts", ("plus", E, F), G), ("plus", ("cuts", E, G), ("cuts", F, G))),
    ("lift", ("times", 3, ("plus", E, F)), ("plus", ("times", 3, E), ("times", 3, F))),
    ("lift", ("times", -9, ("both", E, F)), ("both", ("times", -9, E), F)),
    ("lift", ("times", 0, ("cuts", E, F)), ("cuts", ("times", 0, E), F)),
    ("turn", ("turned", ("turned", E)), E),
    ("turn", ("turned", ("times", 2, E)), ("times", 2, ("turned", E))),
    ("turn", ("turned", ("plus", E, F)), ("plus", ("turned", E), ("turned", F))),
    ("turn", ("turned", ("both", E, F)), ("both", ("turned", E), ("turned", F))),
    ("turn", ("turned", ("cuts", E, F)), ("cuts", ("turned", F), ("turned", E))),
    ("turn", ("turned", ("star", E)), ("star", ("turned", E))),
    ("turn", ("turned", ("without", "in", E)), ("without", "in", ("turned", E))),
    ("leave", ("without", "in", ("plus", E, F)), ("plus", ("without", "in", E), ("without", "in", F))),
    ("leave", ("without", "in", ("both", E, F)), ("both", ("without", "in", E), ("without", "in", F))),
    ("leave", ("without", "in", ("times", 2, E)), ("times", 2, ("without", "in", E))),
    ("leave", ("without", "in", ("without", "in", E)), ("without", "in", E)),
    ("leave", ("without", "in", ("without", "out", E)), ("without", "out", ("without", "in", E))),
    ("fit", ("only", "p", ("plus", E, F)), ("plus", ("only", "p", E), ("only", "p", F))),
    ("fit", ("only", "even", ("times", 2, E)), ("times", 2, ("only", "even", E))),
    ("fit", ("only", "p", ("both", E, F)), ("both", ("only", "p", E), F)),
    ("fit", ("only", "p", ("only", "p", E)), ("only", "p", E)),
    ("fit", ("only", "p", ("only", "even", E)), ("only", "even", ("only", "p", E))),
]
# Expressions to which a rule that is near can not be applied, and the rules that can.
NEAR = [
    ("e", ()), (("cuts", E, F), ()), (("plus", E, ("plus", F, G)), ("swap",)),
    (("plus", ("both", E, G), G), ("swap",)), (("cuts", ("both", E, G), G), ()),
    (("cuts", G, ("plus", E, G)), ()), (("cuts", E, ("cuts", F, G)), ()), (("plus", ("cuts", E, F), G), ("swap",)),
    (("times", 2, E), ()), (("times", 2, ("times", 3, E)), ()), (("times", 2, ("turned", E)), ()),
    (("turned", E), ()), (("turned", ("only", "p", E)), ()), (("star", ("star", E)), ()),
    (("without", "in", E), ()), (("without", "in", ("cuts", E, F)), ()), (("without", "in", ("star", E)), ()),
    (("without", "in", ("turned", E)), ()), (("without", "in", ("only", "p", E)), ()), (("only", "p", E), ()),
    (("only", "p", ("cuts", E, F)), ()), (("only", "p", ("star", E)), ()), (("only", "p", ("without", "in", E)), ()),
    (("only", "p", ("turned", E)), ()),
]


class RulesTest(unittest.TestCase):
    def test_each_rule_at_the_whole(self):
        for rule, before, after in STEPS:
            with self.subTest(rule=rule, before=before):
                self.assertEqual(applied(rule, before), after)
                if BOOK.bound_of(before) <= 6:
                    self.assertIn(rule, rules_at(BOOK, before, ()))
                    self.assertEqual(rewritten(BOOK, before, (), rule), after)
                else:
                    # Products of three loops have a bound of at least 8, so no function lets them in.
                    self.assertIn("both", (before[0], before[2][0]))
                forms = [built_form(LOOPS, BOOK.patterns, some) for some in (before, after)]
                self.assertTrue(same_answers(*forms))

    def test_each_rule_deeper(self):
        for rule, before, after in STEPS:
            for around, path in [(lambda part: ("turned", part), (1,)), (lambda part: ("times", 4, part), (2,)),
                                 (lambda part: ("star", ("without", "in", part)), (1, 2)),
                                 (lambda part: ("only", "p", ("turned", part)), (2, 1))]:
                whole = around(before)
                if BOOK.bound_of(whole) <= 6:
                    self.assertIn(rule, rules_at(BOOK, whole, path))
                    self.assertEqual(rewritten(BOOK, whole, path, rule), around(after))
        whole = ("cuts", "e", ("times", 2, ("plus", "f", "g")))
        self.assertEqual(rules_at(BOOK, whole, (2,)), ("lift",))
        self.assertEqual(rewritten(BOOK, whole, (2, 2), "swap"), ("cuts", "e", ("times", 2, ("plus", "g", "f"))))

    def test_rules_that_can_be_applied(self):
        for expression, names in NEAR:
            self.assertEqual(rules_at(BOOK, expression, ()), names, expression)
        both = ("plus", ("plus", E, F), G)
        self.assertEqual(rules_at(BOOK, both, ()), ("regroup", "swap"))
        self.assertEqual(rules_at(BOOK, both, (1,)), ("swap",))
        self.assertEqual(rules_at(BOOK, both, (1, 2)), ())
        self.assertEqual(rules_at(book=BOOK, question=("cuts", ("plus", E, F), G), path=()), ("spread",))
        for rule, before, _ in STEPS:
            if BOOK.bound_of(before) <= 6:
                names = rules_at(BOOK, before, ())
                self.assertEqual(names, tuple(sorted(names)))
                self.assertLessEqual(set(names), {rule, "swap"})

    def test_rules_that_can_not(self):
        for expression, names in NEAR:
            for rule in ("fit", "leave", "lift", "regroup", "spread", "swap", "turn"):
                if rule not in names:
                    with self.assertRaises(BadRule):
                        rewritten(BOOK, expression, (), rule)
        for rule in [*ODD_VALUES, "Swap", "swap ", "plus", ("swap",), ["swap"], 1]:
            with self.assertRaises(BadRule):
                rewritten(BOOK, ("plus", E, F), (), rule)

    def test_what_comes_is_alike(self):
        chance = random.Random(27)
        applied = {}
        while min([applied.get(rule, 0) for rule in ("fit", "leave", "lift", "regroup", "spread", "swap", "turn")]) < 4:
            book = random_book(chance)
            question = random_expression(chance, book, 6)
            for path in self.paths(question):
                for rule in rules_at(book, question, path):
                    after = rewritten(book, question, path, rule)
                    applied[rule] = applied.get(rule, 0) + 1
                    self.assertEqual(after, rewritten(book=book, question=question, path=path, rule=rule))
                    rows = [(chance.choice(book.kinds), chance.randint(-3, 3)) for _ in range(3)]
                    self.assertEqual(plain_answer(book, question, rows), plain_answer(book, after, rows))
                    forms = [built_form(book.loops, book.patterns, some) for some in (question, after)]
                    self.assertTrue(same_answers(*forms))
                    if self.depth(after) <= 5 and book.bound_of(after) <= 6:
                        self.assertTrue(alike(book, question, after))

    def paths(self, expression):
        """All paths in an expression."""
        yield ()
        if isinstance(expression, tuple):
            for at in range(1, len(expression)):
                if at == 2 or expression[0] in ("plus", "both", "cuts", "star", "turned"):
                    for path in self.paths(expression[at]):
                        yield (at, *path)

    def depth(self, expression):
        """How many expressions are within one another."""
        if isinstance(expression, str):
            return 1
        return 1 + max(self.depth(part) for part in expression[1:] if isinstance(part, (str, tuple)))

    def test_greater_bounds_come(self):
        before = ("cuts", ("plus", "e", "f"), "g")
        after = rewritten(BOOK, before, (), "spread")
        self.assertEqual((BOOK.bound_of(before), BOOK.bound_of(after)), (6, 8))
        self.assertEqual(after, ("plus", ("cuts", "e", "g"), ("cuts", "f", "g")))

    def test_more_than_five_come(self):
        before = ("plus", ("plus", "e", "e"), ("times", 3, ("times", 2, ("turned", "e"))))
        after = rewritten(BOOK, before, (), "regroup")
        self.assertEqual(after, ("plus", "e", ("plus", "e", ("times", 3, ("times", 2, ("turned", "e"))))))
        self.assertEqual((self.depth(before), self.depth(after)), (5, 6))
        with self.assertRaises(BadExpression):
            rules_at(BOOK, after, ())
        inside = ("times", 2, ("times", 2, ("plus", ("times", 2, "e"), "f")))
        self.assertEqual(rewritten(BOOK, inside, (2,), "lift"),
                         ("times", 2, ("plus", ("times", 2, ("times", 2, "e")), ("times", 2, "f"))))

    def test_bad_paths(self):
        question = ("plus", ("times", 2, "e"), ("without", "in", ("star", "f")))
        for path in [(), (1,), (1, 2), (2,), (2, 2), (2, 2, 1)]:
            rules_at(BOOK, question, path)
        for path in [value for value in ODD_VALUES if value != ()] + [
                (0,), (3,), (-1,), (1, 1), (1, 0), (1, 2, 0), (1, 2, 1), (2, 1), (2, 2, 2), (True,), (1, 2.0), ("1",),
                (None,), [1], [], (1, (2,)), (2, 2, True), (2, 2, 1, 0), ((),)]:
            with self.assertRaises(BadPath):
                rules_at(BOOK, question, path)
            with self.assertRaises(BadPath):
                rewritten(BOOK, question, path, None)
        with self.assertRaises(BadPath):
            rules_at(BOOK, ("only", "p", "e"), (1,))

    def test_names_that_are_shared(self):
        book = Book({"in": ONE, "p": ONE}, {"p": ALL, "in": EVEN}, {"p": "p"})
        question = ("without", "in", ("only", "p", ("plus", "in", "p")))
        self.assertEqual(rules_at(book, question, ()), ())
        self.assertEqual(rewritten(book, question, (2,), "fit"),
                         ("without", "in", ("plus", ("only", "p", "in"), ("only", "p", "p"))))
        with self.assertRaises(BadPath):
            rules_at(book, question, (1,))
        with self.assertRaises(BadPath):
            rules_at(book, question, (2, 1))

    def test_errors_in_order(self):
        large = ("both", ("plus", "e", "f"), ("plus", "e", "f"))
        for asked in (rules_at, lambda book, question, path: rewritten(book, question, path, None)):
            for value in ODD_VALUES:
                with self.assertRaises(BadBook):
                    asked(value, None, None)
            with self.assertRaises(BadExpression) as caught:
                asked(BOOK, ("plus", large, ()), None)
            self.assertEqual(caught.exception.spot, (2,))
            with self.assertRaises(TooMany):
                asked(BOOK, large, None)
            with self.assertRaises(BadPath):
                asked(BOOK, "e", (1,))
        with self.assertRaises(BadRule):
            rewritten(BOOK, "e", (), "swap")


if __name__ == "__main__":
    unittest.main()
