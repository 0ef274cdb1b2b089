"""Points 3, 4, 5 and 12: patterns."""

import random
import unittest

from stillknown.errors import BadPattern, BadRows
from stillknown.patterns import Pattern
from tests.plain import ODD_VALUES, pattern_fits, random_pattern


class PatternTest(unittest.TestCase):
    def wrong(self, part, steps, good):
        with self.assertRaises(BadPattern) as caught:
            Pattern(steps, good)
        self.assertEqual(caught.exception.part, part)

    def test_fits(self):
        pattern = Pattern({"a": [1, 1], "b": [0, 0]}, [1])
        self.assertFalse(pattern.fits([]))
        self.assertTrue(pattern.fits([("a", 3)]))
        self.assertTrue(pattern.fits(rows=(("b", 3), ("a", -10 ** 30))))
        self.assertFalse(pattern.fits([("a", 3), ("b", 3)]))
        self.assertIs(pattern.fits([("a", 3)]), True)
        self.assertIs(pattern.fits([]), False)

    def test_against_plain(self):
        chance = random.Random(12)
        for _ in range(60):
            kinds = chance.sample(["a", "b", "c"], chance.randint(1, 3))
            pattern = random_pattern(chance, kinds, chance.randint(1, 4))
            rows = [(chance.choice(kinds), chance.randint(-9, 9)) for _ in range(chance.randint(0, 8))]
            self.assertEqual(pattern.fits(rows), pattern_fits(pattern, rows))

    def test_edges(self):
        self.assertTrue(Pattern({"a": [0]}, [0]).fits([]))
        self.assertFalse(Pattern({"a": [0]}, []).fits([("a", 0)]))
        four = Pattern({"b": (1, 2, 3, 3), "a": (0, 1, 2, 3), "c": [0] * 4}, (3, 0))
        self.assertEqual((four.states, four.good, four.kinds), (4, (0, 3), ("a", "b", "c")))
        self.assertEqual([four.fits([("b", 1)] * many) for many in range(5)], [True, False, False, True, True])

    def test_properties_and_copies(self):
        steps, good = {"b": [1, 0], "a": [0, 0]}, [1, 0]
        pattern = Pattern(good=good, steps=steps)
        steps["b"][0] = 0
        del steps["a"]
        good.clear()
        self.assertEqual(pattern.steps, {"a": (0, 0), "b": (1, 0)})
        self.assertEqual(list(pattern.steps), ["a", "b"])
        self.assertEqual(pattern.good, (0, 1))
        pattern.steps.clear()
        self.assertEqual(pattern.steps, {"a": (0, 0), "b": (1, 0)})
        self.assertIsInstance(pattern.steps["a"], tuple)
        self.assertIsInstance(pattern.kinds, tuple)

    def test_equality(self):
        pattern = Pattern({"a": [1, 0], "b": [0, 0]}, [1, 0])
        self.assertTrue(pattern == Pattern({"b": (0, 0), "a": (1, 0)}, (0, 1)))
        self.assertFalse(pattern != Pattern({"b": (0, 0), "a": (1, 0)}, (0, 1)))
        self.assertFalse(pattern == Pattern({"a": [1, 0], "b": [0, 0]}, [1]))
        self.assertFalse(pattern == Pattern({"a": [1, 0], "b": [0, 1]}, [1, 0]))
        self.assertFalse(pattern == Pattern({"a": [1, 0]}, [1, 0]))
        for value in [*ODD_VALUES, ({"a": (1, 0), "b": (0, 0)}, (0, 1))]:
            self.assertFalse(pattern == value)
            self.assertTrue(pattern != value)

    def test_not_iterated_over(self):
        with self.assertRaises(TypeError):
            iter(Pattern({"a": [0]}, [0]))

    def test_wrong_steps(self):
        bad = [{"a": []}, {"a": [0, 0, 0, 0, 0]}, {"a": [1]}, {"a": [-1]}, {"a": [True, 0]}, {"a": [0], "b": [0, 0]},
               {"a": [0, 2]}, {"a": "0"}, {"a": None}, {"a": [None]}, {"a": {0: 0}}, {"t": [0]}, {"A": [0]},
               {1: [0]}, {"a": [0], "b": None}, {kind: [0] for kind in "abcd"}, {"a": [], "b": []}, {("a",): [0]},
               {"a": [0], 2: [0]}, {"a": ["0"]}, {"a": [0, False]}, {"a": [0, 0], "b": [0]}]
        for steps in [*ODD_VALUES, *bad]:
            self.wrong("steps", steps, [0])
            self.wrong("steps", steps, None)

    def test_wrong_good(self):
        odd = [value for value in ODD_VALUES if value not in ([], ())]
        for good in [*odd, [2], [-1], [0, 0], [0, 1, 0], [True], [False, 0], ["0"], [[0]], {0: 1}, "0", [0, 1, 2]]:
            self.wrong("good", {"a": [0, 1]}, good)

    def test_bad_rows(self):
        pattern = Pattern({"a": [0]}, [0])
        for at, rows in [(None, None), (None, "a"), (None, {}), (None, pattern), (0, [["a", 1]]), (0, [("a", False)]),
                         (0, [("b", 1)]), (1, [("a", 1), ("a",)]), (0, [(["a"], 1)]), (2, (("a", 1), ("a", 1), 1))]:
            with self.assertRaises(BadRows) as caught:
                pattern.fits(rows)
            self.assertEqual(caught.exception.at, at)


if __name__ == "__main__":
    unittest.main()
