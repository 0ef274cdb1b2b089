"""Points 3, 4, 5, 10 and 11: loops."""

import random
import unittest

from stillknown.errors import BadLoop, BadRows
from stillknown.loops import Loop
from tests.plain import ODD_VALUES, loop_answer, random_loop

START = {"s": 0, "n": 5}
STEPS = {
    "put": {"s": (("", 1, 1), ("s", 0, 1)), "n": (("", 0, 1), ("n", 0, 1))},
    "add": {"s": (("n", 2, 2), ("s", 0, -1)), "n": ()},
}
LAST = (("", 0, 3), ("n", 0, 1), ("s", 0, 1))


def one_loop(terms, last=(("x", 0, 1),), start=7):
    return Loop({"x": start}, {"k": {"x": terms}}, last)


class LoopTest(unittest.TestCase):
    def wrong(self, part, *told, **named):
        with self.assertRaises(BadLoop) as caught:
            Loop(*told, **named)
        self.assertEqual(caught.exception.part, part)

    def test_answers(self):
        loop = Loop(START, STEPS, LAST)
        self.assertEqual(loop.answer([]), 8)
        self.assertEqual(loop.answer([("put", 4)]), 3 + 6 + 4)
        # s = 2 * n * t * t - s with the values ahead, and n is 0 at once.
        self.assertEqual(loop.answer([("put", 4), ("add", 3)]), 3 + 0 + 2 * 6 * 9 - 4)
        self.assertEqual(loop.held([("put", 4), ("add", 3)]), {"n": 0, "s": 104})
        self.assertEqual(list(loop.held([])), ["n", "s"])
        self.assertEqual(loop.held(rows=()), {"n": 5, "s": 0})
        self.assertEqual(loop.answer(rows=(("put", 4),)), 13)

    def test_all_variables_change_at_once(self):
        loop = Loop({"a": 1, "b": 2}, {"k": {"a": (("b", 0, 1),), "b": (("a", 0, 1),)}}, (("a", 0, 1),))
        self.assertEqual(loop.held([("k", 0)]), {"a": 2, "b": 1})
        self.assertEqual(loop.held([("k", 0)] * 2), {"a": 1, "b": 2})

    def test_against_plain_answers(self):
        chance = random.Random(11)
        for _ in range(60):
            kinds = chance.sample(["a", "b", "c"], chance.randint(1, 3))
            loop = random_loop(chance, kinds, chance.sample(["x", "y", "z"], chance.randint(1, 3)))
            rows = [(chance.choice(kinds), chance.randint(-9, 9)) for _ in range(chance.randint(0, 8))]
            self.assertEqual(loop.answer(rows), loop_answer(loop, rows))

    def test_edges(self):
        loop = one_loop((("", 0, -9), ("", 1, 9), ("", 2, -9), ("x", 0, 9), ("x", 1, -9), ("x", 2, 9)), start=-99)
        number = -10 ** 30
        wanted = -9 + 9 * number - 9 * number ** 2 + -99 * (9 - 9 * number + 9 * number ** 2)
        self.assertEqual(loop.answer([("k", number)]), wanted)
        self.assertEqual(one_loop((), start=99).answer([]), 99)
        self.assertEqual(one_loop(()).answer([("k", 3)]), 0)
        self.assertEqual(one_loop((), last=()).answer([("k", 3)]), 0)
        self.assertEqual(one_loop((("x", 2, 1),)).answer([("k", 10 ** 29)] * 40), 7 * 10 ** (58 * 40))
        three = {"abcdef": 1, "b": 2, "zzzzzz": 3}
        steps = {kind: {name: () for name in three} for kind in ("z", "tt", "abcdef")}
        loop = Loop(three, steps, (("abcdef", 0, 1),))
        self.assertEqual(loop.kinds, ("abcdef", "tt", "z"))
        self.assertEqual(loop.variables, ("abcdef", "b", "zzzzzz"))
        # A kind may have the name of a variable.
        self.assertEqual(loop.answer([("abcdef", 1)]), 0)

    def test_properties(self):
        loop = Loop(last=LAST, steps=STEPS, start=START)
        self.assertEqual((loop.start, loop.steps, loop.last), (START, STEPS, LAST))
        self.assertEqual(list(loop.start), ["n", "s"])
        self.assertEqual(list(loop.steps), ["add", "put"])
        self.assertEqual([list(sums) for sums in loop.steps.values()], [["n", "s"]] * 2)
        self.assertEqual((loop.kinds, loop.variables), (("add", "put"), ("n", "s")))
        self.assertIsInstance(loop.kinds, tuple)
        self.assertIsInstance(loop.last, tuple)

    def test_copies(self):
        start, steps = dict(START), {kind: dict(sums) for kind, sums in STEPS.items()}
        loop = Loop(start, steps, LAST)
        start["s"] = 9
        steps["put"]["s"] = ()
        del steps["add"]
        loop.start["s"] = 8
        loop.steps["put"]["s"] = ()
        loop.steps.clear()
        loop.held([])["s"] = 4
        self.assertEqual((loop.start, loop.steps), (START, STEPS))
        rows = [("put", 1)]
        self.assertEqual(loop.answer(rows), 10)
        self.assertEqual(rows, [("put", 1)])
        self.assertEqual(loop, Loop(START, STEPS, LAST))

    def test_equality(self):
        loop = Loop(START, STEPS, LAST)
        turned = {"add": {"n": (), "s": STEPS["add"]["s"]}, "put": STEPS["put"]}
        self.assertTrue(loop == Loop({"n": 5, "s": 0}, turned, LAST))
        self.assertFalse(loop != Loop(START, STEPS, LAST))
        self.assertFalse(loop == Loop({"n": 5, "s": 1}, STEPS, LAST))
        self.assertFalse(loop == Loop(START, {**STEPS, "add": STEPS["put"]}, LAST))
        self.assertFalse(loop == Loop(START, STEPS, ()))
        for value in [*ODD_VALUES, (START, STEPS, LAST)]:
            self.assertFalse(loop == value)
            self.assertTrue(loop != value)

    def test_not_iterated_over(self):
        with self.assertRaises(TypeError):
            iter(Loop(START, STEPS, LAST))

    def test_wrong_start(self):
        odd = [value for value in ODD_VALUES if value != {"a": 1}]
        bad = [{"s": 100}, {"s": -100}, {"s": True}, {"s": "1"}, {"s": None}, {"t": 1}, {"S": 1}, {"": 1},
               {"abcdefg": 1}, {"a b": 1}, {"a1": 1}, {"\xe4": 1}, {1: 1}, {("a",): 1}, {"a": 1, 2: 1},
               {name: 0 for name in "abcd"}, [("s", 1)]]
        for start in [*odd, *bad]:
            self.wrong("start", start, STEPS, LAST)
            self.wrong("start", start, None, None)

    def test_wrong_steps(self):
        sums = [None, [], [("", 0, 1)], (("", 0),), (("", 0, 1, 1),), (["", 0, 1],), ((None, 0, 1),),
                (("y", 0, 1),), (("k", 0, 1),), (("t", 0, 1),), (("x", 3, 1),), (("x", -1, 1),), (("x", True, 1),),
                (("x", 0, 0),), (("x", 0, 10),), (("x", 0, -10),), (("x", 0, True),), (("x", "0", 1),),
                (("x", 0, 1), ("", 0, 1)), (("x", 1, 1), ("x", 0, 1)), (("x", 0, 1), ("x", 0, 2)),
                ((["x"], 0, 1),), (("x", None, 1),), ("x", 0, 1), "x", 0, True]
        for terms in sums:
            self.wrong("steps", {"x": 1}, {"k": {"x": terms}}, ())
            self.wrong("steps", {"x": 1}, {"k": {"x": terms}}, None)
            self.wrong("steps", {"x": 1}, {"a": {"x": ()}, "k": {"x": terms}}, ())
        for steps in [*ODD_VALUES, {"k": {}}, {"k": {"y": ()}}, {"k": {"x": (), "y": ()}}, {"k": {1: ()}},
                      {"k": None}, {"k": ["x"]}, {"t": {"x": ()}}, {1: {"x": ()}}, {"k": {"x": ()}, "K": {"x": ()}},
                      {kind: {"x": ()} for kind in "abcd"}, {"k": {("x",): ()}}]:
            self.wrong("steps", {"x": 1}, steps, ())

    def test_wrong_last(self):
        for last in [value for value in ODD_VALUES if value != ()]:
            self.wrong("last", {"x": 1}, {"k": {"x": ()}}, last)
        for last in [(("x", 1, 1),), (("", 2, 1),), (("x", 0, 1), ("", 0, 1)), (("y", 0, 1),), [("x", 0, 1)],
                     (("x", 0, 0),), (("x", False, 1),)]:
            self.wrong("last", {"x": 1}, {"k": {"x": ()}}, last)

    def test_bad_rows(self):
        loop = one_loop((("x", 0, 1),))
        for at, rows in [(None, None), (None, "k"), (None, {"k": 1}), (None, 3), (None, True), (None, loop),
                         (0, [None]), (0, [["k", 1]]), (0, [("k",)]), (0, [("k", 1, 1)]), (0, [("k", True)]),
                         (0, [("k", "1")]), (0, [("x", 1)]), (0, [("t", 1)]), (0, [(["k"], 1)]), (0, [(1, 1)]),
                         (0, [({}, 1)]), (0, ["k"]), (0, ["kk"]), (1, [("k", 1), ("l", 1), None]),
                         (2, (("k", 1), ("k", 2), ())), (0, [loop])]:
            for asked in (loop.answer, loop.held):
                with self.assertRaises(BadRows) as caught:
                    asked(rows)
                self.assertIs(type(caught.exception.at), type(at))
                self.assertEqual(caught.exception.at, at)


if __name__ == "__main__":
    unittest.main()
