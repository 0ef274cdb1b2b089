"""Point 20: forms."""

import random
import unittest

from stillknown.books import Book
from stillknown.errors import BadBook, BadExpression, BadForm, BadKinds, BadRows, TooMany
from stillknown.forms import form_answer, is_form_of
from stillknown.least import least_form
from stillknown.loops import Loop
from stillknown.ownforms import own_form
from tests.plain import ODD_VALUES, all_rows, plain_answer, plain_form_answer, random_book, random_expression

SUM = Loop({"s": 0}, {"in": {"s": (("", 1, 1), ("s", 0, 1))}}, (("s", 0, 1),))
CUBE = Loop({"x": 0, "y": 0}, {"in": {"x": (("", 2, 1), ("x", 0, 1)), "y": (("", 0, 1), ("x", 1, 1), ("y", 0, 1))}},
            (("y", 0, 1),))
BOOK = Book({"sum": SUM, "cube": CUBE, "zero": Loop({"x": 0}, {"in": {"x": ()}}, ())}, {}, {"a": "sum"})
GOOD = ((1, 0), {"in": (((1, 0), (0, 1)), ((0, 1), (0, 0)))}, (0, 1))


def random_form(chance, kinds, size):
    def numbers():
        return tuple(chance.randint(-2, 2) for _ in range(size))

    tables = {kind: tuple(tuple(numbers() for _ in range(size)) for _ in range(chance.randint(1, 5)))
              for kind in kinds}
    return numbers(), tables, numbers()


class FormAnswerTest(unittest.TestCase):
    def test_ordinary(self):
        self.assertEqual(form_answer(["in"], GOOD, [("in", 5), ("in", -7)]), -2)
        self.assertEqual(form_answer(kinds=("in",), form=GOOD, rows=(("in", 5),)), 5)
        self.assertEqual(form_answer(["in"], GOOD, []), 0)

    def test_against_plain_answers(self):
        chance = random.Random(20)
        for _ in range(60):
            kinds = chance.sample(["c", "a", "b"], chance.randint(1, 3))
            form = random_form(chance, kinds, chance.randint(0, 6))
            rows = [(chance.choice(kinds), chance.randint(-5, 5)) for _ in range(chance.randint(0, 5))]
            self.assertEqual(form_answer(kinds, form, rows), plain_form_answer(form, rows))

    def test_edges(self):
        nothing = ((), {"a": ((),), "b": ((), (), (), (), ())}, ())
        self.assertEqual(form_answer(["b", "a"], nothing, [("a", 3), ("b", 4)]), 0)
        self.assertEqual(form_answer(["b", "a"], nothing, []), 0)
        fourth = ((1,), {"a": (((0,),), ((0,),), ((0,),), ((0,),), ((-3,),))}, (2,))
        self.assertEqual(form_answer(["a"], fourth, [("a", -10 ** 30)] * 2), 2 * 9 * 10 ** 240)
        six = ((10 ** 20,) * 6, {"a": (((1,) * 6,) * 6,)}, (1,) * 6)
        self.assertEqual(form_answer(["a"], six, [("a", 0)] * 3), 6 ** 4 * 10 ** 20)

    def test_bad_kinds_first(self):
        for kinds in [*ODD_VALUES, ["t"], ["a", "a"], ["a", "b", "c", "d"], "abc", {"a": 1}, ["a", 1], [["a"]], ["A"]]:
            if kinds in (["a"], ("a",)) and not isinstance(kinds, str):
                continue
            with self.assertRaises(BadKinds):
                form_answer(kinds, None, None)

    def test_bad_form(self):
        begin, tables, end = GOOD
        one = tables["in"][0]
        bad = [list(GOOD), GOOD[:2], (*GOOD, 1), ([1, 0], tables, end), (begin, tables, [0, 1]), ((1,), tables, end),
               (begin, tables, (0, 1, 2)), ((True, 0), tables, end), (begin, tables, (0, None)), (begin, {}, end),
               (begin, {"out": tables["in"]}, end), (begin, {**tables, "out": tables["in"]}, end),
               (begin, {"in": ()}, end), (begin, {"in": [one]}, end), (begin, {"in": (one,) * 6}, end),
               (begin, {"in": one}, end), (begin, {"in": (list(one),)}, end), (begin, {"in": (([1, 0], (0, 1)),)}, end),
               (begin, {"in": (((1, 0),),)}, end), (begin, {"in": (((1, 0), (0,)),)}, end),
               (begin, {"in": (((1, 0), (0, True)),)}, end), (begin, {"in": (one, None)}, end),
               ((0,) * 7, {"in": (((0,) * 7,) * 7,)}, (0,) * 7), (begin, None, end), (begin, [("in", (one,))], end),
               (None, tables, end), (begin, {1: (one,)}, end), ((), {"in": ()}, ())]
        for form in [*ODD_VALUES, *bad, BOOK]:
            with self.assertRaises(BadForm):
                form_answer(["in"], form, None)
            self.assertIs(is_form_of(BOOK, "sum", form), False)

    def test_bad_rows(self):
        for at, rows in [(None, None), (None, "in"), (0, [("out", 1)]), (1, (("in", 1), ["in", 1])), (0, [("in", True)])]:
            with self.assertRaises(BadRows) as caught:
                form_answer(["in"], GOOD, rows)
            self.assertEqual(caught.exception.at, at)


class IsFormOfTest(unittest.TestCase):
    def test_ordinary(self):
        self.assertIs(is_form_of(BOOK, "sum", GOOD), True)
        self.assertIs(is_form_of(BOOK, "zero", GOOD), False)
        self.assertIs(is_form_of(book=BOOK, question=("times", 2, "sum"), thing=((2, 0), GOOD[1], (0, 1))), True)
        # Larger ones, with more powers, with other numbers in what is not come to or not seen.
        large = ((1, 0, 0), {"in": (((1, 0, 0), (0, 1, 0), (7, 8, 9)), ((0, 1, 0), (0, 0, 0), (1, 2, 3)),
                                    ((0, 0, 0), (0, 0, 0), (4, 5, 6)))}, (0, 1, 8))
        self.assertTrue(is_form_of(BOOK, "sum", large))
        self.assertFalse(is_form_of(BOOK, "sum", ((1, 0, 1), large[1], large[2])))

    def test_nothing(self):
        nothing = ((), {"in": ((),)}, ())
        self.assertTrue(is_form_of(BOOK, "zero", nothing))
        self.assertTrue(is_form_of(BOOK, ("times", 0, "cube"), nothing))
        self.assertTrue(is_form_of(BOOK, ("plus", "sum", ("times", -1, "sum")), nothing))
        self.assertFalse(is_form_of(BOOK, "sum", nothing))

    def test_great_numbers(self):
        # The same for the numbers 0 to 10 ** 6, but not for all.
        step = (((1, 0), (0, 1)), ((-10 ** 6, 1), (0, 0)), ((1, 0), (0, 0)))
        self.assertFalse(is_form_of(BOOK, "sum", ((1, 0), {"in": step}, (0, 1))))
        far = ((1, 0, 0), {"in": (((1, 10 ** 20, 0), (0, 1, 0), (0, 0, 1)), ((0, 0, 1), (0, 0, 0), (0, 0, 0)))},
               (0, 0, 1))
        self.assertTrue(is_form_of(BOOK, "sum", far))

    def test_apart_only_behind_many_rows(self):
        # A counter up to 5 that then adds 1: parted by lists of five rows alone.
        moves = tuple(tuple(1 if to == at + 1 else 0 for to in range(6)) for at in range(6))
        late = ((1, 0, 0, 0, 0, 0), {"in": (moves,)}, (0, 0, 0, 0, 0, 1))
        self.assertFalse(is_form_of(BOOK, "zero", late))
        for rows in all_rows(["in"], [0, 1], 5):
            self.assertEqual(form_answer(["in"], late, rows), 0)

    def test_own_forms_of_all_words(self):
        chance = random.Random(21)
        for _ in range(150):
            book = random_book(chance)
            question = random_expression(chance, book, 6)
            form = own_form(book, question)
            self.assertEqual(len(form[0]), book.bound_of(question))
            self.assertTrue(is_form_of(book, question, form))
            rows = [(chance.choice(book.kinds), chance.randint(-3, 3)) for _ in range(chance.randint(0, 5))]
            self.assertEqual(form_answer(book.kinds, form, rows), plain_answer(book, question, rows))
            tables = dict(form[1])
            tables["in"] = (*tables["in"], ((1,) * len(form[0]),) * len(form[0])) if len(tables["in"]) < 5 else ()
            changed = (form[0], tables, form[2])
            same = all(form_answer(book.kinds, changed, some) == plain_answer(book, question, some)
                       for some in all_rows(book.kinds, (1, 2, 3), 4)) if tables["in"] else False
            if not same:
                self.assertFalse(is_form_of(book, question, changed))

    def test_errors_in_order(self):
        large = ("both", "cube", ("star", "cube"))
        for value in ODD_VALUES:
            with self.assertRaises(BadBook) as caught:
                is_form_of(value, None, None)
            self.assertIsNone(caught.exception.part)
        with self.assertRaises(BadExpression) as caught:
            is_form_of(BOOK, ("plus", large, "no"), None)
        self.assertEqual(caught.exception.spot, (2,))
        with self.assertRaises(TooMany) as caught:
            is_form_of(BOOK, large, None)
        self.assertEqual(caught.exception.most, 6)
        self.assertTrue(is_form_of(BOOK, ("plus", "sum", ("star", "cube")), least_form(BOOK, ("plus", "sum", ("star", "cube")))))


if __name__ == "__main__":
    unittest.main()
