"""Some small books that many tests use."""

from stillknown.books import Book
from stillknown.loops import Loop
from stillknown.patterns import Pattern

KINDS = ("in", "out")


def same_loop(start, step, last, kinds=KINDS):
    """A loop that does the same at rows of all kinds."""
    return Loop(start, {kind: step for kind in kinds}, last)


SUM = Loop({"s": 0}, {"in": {"s": (("", 1, 1), ("s", 0, 1))}, "out": {"s": (("", 1, -1), ("s", 0, 1))}},
           (("s", 0, 1),))
COUNT = same_loop({"n": 0}, {"n": (("", 0, 1), ("n", 0, 1))}, (("n", 0, 1),))
SQUARE = same_loop({"q": 0}, {"q": (("", 2, 1), ("q", 0, 1))}, (("q", 0, 1),))
ZERO = same_loop({"x": 5}, {"x": (("x", 2, 3),)}, ())
ONE = same_loop({"x": 1}, {"x": (("x", 0, 1),)}, (("x", 0, 1),))
# The last number that came in; rows that go out leave it as it is.
LAST = Loop({"v": 0}, {"in": {"v": (("", 1, 1),)}, "out": {"v": (("v", 0, 1),)}}, (("v", 0, 1),))
# Doubled by each row that goes out.
DOUBLE = Loop({"d": 1}, {"in": {"d": (("d", 0, 1),)}, "out": {"d": (("d", 0, 2),)}}, (("d", 0, 1),))
# 1 and -1 in turn, for rows that come in.
SIGN = Loop({"g": 1}, {"in": {"g": (("g", 0, -1),)}, "out": {"g": (("g", 0, 1),)}}, (("g", 0, 1),))
EVEN = Pattern({"in": [1, 0], "out": [0, 1]}, [0])
SHORT = Pattern({"in": [1, 2, 2], "out": [1, 2, 2]}, [0, 1])
NEVER = Pattern({"in": [0], "out": [0]}, [])
SETTLED = Pattern({"in": [1, 1], "out": [0, 1]}, [0])

LOOPS = {"sum": SUM, "many": COUNT, "square": SQUARE, "last": LAST}
PATTERNS = {"even": EVEN, "short": SHORT, "never": NEVER}
TWO = Book(LOOPS, PATTERNS, {"a": "sum", "b": "many"})
RICH = Book(LOOPS, PATTERNS, {"a": ("cuts", "many", "sum"), "b": "sum"})
LASTS = Book(LOOPS, PATTERNS, {"a": "last", "b": ("both", "many", "many")})
FLAT = Book({"zero": ZERO, "one": ONE, "sum": SUM}, {}, {"a": "zero", "b": "one"})
NOTHING = Book({"zero": ZERO}, {}, {"a": "zero", "b": ("times", 0, "zero")})
LARGE_LOOP = same_loop(
    {"x": 1, "y": 2, "z": -1},
    {"x": (("", 1, 1), ("x", 0, 2), ("y", 1, 1)), "y": (("", 0, 1), ("z", 0, 1)), "z": (("x", 1, -1), ("y", 0, 1))},
    (("x", 0, 1),))
LARGE = Book({"large": LARGE_LOOP, "sum": SUM}, {}, {"a": ("star", "large"), "b": ("plus", "sum", "sum")})
