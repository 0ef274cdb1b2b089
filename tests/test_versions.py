"""Points 80 to 85: what must be read again, tellings, ledgers, what must be held, pieces that are turned."""

import copy
import random
import unittest
from itertools import product

from stillknown.books import Book
from stillknown.errors import (
    BadBook, BadBooks, BadMarks, BadNumber, BadReading, NoQuestion, NoVersion, OtherKinds,
)
from stillknown.loops import Loop
from stillknown.spaces import book_size
from stillknown.versions import (
    again, forgetful, holding, is_again, is_had, is_holding, is_telling, ledger, read_again, telling, told_questions,
    turned_places,
)
from tests.books import FLAT, LOOPS, NOTHING, PATTERNS, TWO
from tests.plain import (
    Free, ODD_VALUES, all_rows, check_any_values, plain_told, plain_told_of_mix, random_book, random_questions, random_rows,
    rank_of,
)

EMPTY = ([], [])


def book_of(**questions):
    """A book with the common loops."""
    return Book(LOOPS, PATTERNS, questions)


CUTS = ("cuts", "many", "sum")
S = book_of(a="sum")
N = book_of(a="many")
SN = book_of(a="sum", b="many")
C = book_of(b=CUTS)
L = book_of(a="last")
OTHER = Book({"n": Loop({"n": 0}, {"in": {"n": ()}}, ())}, {}, {"a": "n"})


class Plain:
    """Versions by what their readings tell of many pieces."""

    def __init__(self, chance, versions):
        self.versions = versions
        kinds = versions[0].kinds
        self.pieces = list(all_rows(kinds, (0, 1), 3)) + [random_rows(chance, kinds, 6, 4) for _ in range(40)]
        short = list(all_rows(kinds, (0, 1), 2))
        self.surroundings = [(ahead, behind) for ahead in short for behind in short]
        self.surroundings += [(random_rows(chance, kinds, 2), random_rows(chance, kinds, 2)) for _ in range(12)]
        self.ones = [1] * len(self.pieces)
        self.memory = {}
        self.rows = [self.version_rows(at) for at in range(len(versions))]

    def row(self, version, name, surrounding):
        key = version, name, repr(surrounding)
        if key not in self.memory:
            book = self.versions[version]
            self.memory[key] = [plain_told(book, (name, surrounding), piece) for piece in self.pieces]
        return self.memory[key]

    def version_rows(self, version):
        """1 and what readings tell of which all of the others hang."""
        kept, free = [self.ones], Free([self.ones])
        for name in self.versions[version].names:
            for surrounding in self.surroundings:
                row = self.row(version, name, surrounding)
                if free.take(row):
                    kept.append(row)
        return kept

    def is_enough(self):
        """Whether enough pieces and surroundings were tried to see all there is."""
        return [len(rows) for rows in self.rows] == [book_size(version) for version in self.versions]

    def of(self, first, last):
        return [row for rows in self.rows[first:last] for row in rows]

    def blended(self, blend):
        lines = [[coefficient * x for x in (self.ones if item is None else self.row(*item))]
                 for coefficient, item in blend]
        return [sum(column) for column in zip(*lines)]


def some_versions(seed, many, counts):
    """Versions made at random, some of them twice, with their readings."""
    chance = random.Random(seed)
    done = 0
    while done < many:
        kinds = chance.choice([("in",), ("in", "out")])
        base = random_book(chance, kinds, (0, 1))
        versions = []
        for _ in range(chance.choice(counts)):
            if versions and chance.random() < 0.2:
                versions.append(chance.choice(versions))
            else:
                source = base if chance.random() < 0.7 else random_book(chance, kinds, (0, 1))
                versions.append(random_questions(chance, source, 4, 2, 6))
        if max(book_size(version) for version in versions) > 8:
            continue
        plain = Plain(chance, versions)
        if plain.is_enough():
            done += 1
            yield chance, versions, plain


class AgainTest(unittest.TestCase):
    def test_known(self):
        for old, new, told, count in [(S, SN, ["a"], 1), (SN, S, ["a"], 0), (S, N, [], 1), (SN, C, [], 3), (C, SN, ["a", "b"], 0),
                                      (C, S, ["a"], 0), (S, S, ["a"], 0), (NOTHING, FLAT, ["a", "b"], 0), (FLAT, S, [], 1),
                                      (S, NOTHING, ["a", "b"], 0), (SN, L, [], 2)]:
            self.assertEqual(told_questions(old, new), told)
            self.assertEqual(read_again(old, new), count)
            self.assertEqual(len(again(old, new)), count)
        self.assertEqual(told_questions(new=SN, old=S), ["a"])
        self.assertEqual(again(new=SN, old=S), [(1, "b", EMPTY)])
        # Questions of one name may differ.
        self.assertEqual(told_questions(book_of(a="many", b="sum"), book_of(a="sum", c="many")), ["a", "c"])

    def test_random(self):
        seen = set()
        for chance, (old, new), plain in some_versions(80, 16, [2]):
            olds, news = plain.rows
            count = rank_of(olds + news) - len(olds)
            self.assertEqual(read_again(old, new), count)
            found = again(old, new)
            self.assertEqual(found, again(old, new))
            self.assertEqual(len(found), count)
            rows = [plain.row(*reading) for reading in found]
            self.assertEqual(rank_of(olds + rows), rank_of(olds + rows + news))
            self.assertTrue(all(version == 1 for version, _, _ in found))
            self.assertIs(is_again(old, new, found), True)
            more = [*found, (1, new.names[0], ([(new.kinds[0], 77)], ()))]
            self.assertIs(is_again(old, new, tuple(more)), True)
            self.assertIs(is_again(old, new, more + [(1, new.names[0], ((), []))] * 2), False)
            if found:
                self.assertIs(is_again(old, new, found[1:]), False)
                self.assertIs(is_again(old, new, found + found[:1]), False)
            told = [name for name in new.names if rank_of(
                olds + [plain.row(1, name, surrounding) for surrounding in plain.surroundings]) == len(olds)]
            self.assertEqual(told_questions(old, new), told)
            seen.add((count > 0, len(told) > 0))
        self.assertEqual(len(seen), 3)

    def test_is_again(self):
        good = [[(1, "b", EMPTY)], ((1, "b", ((), ())),), [(1, "b", ([("in", 7)], [])), (1, "a", EMPTY)],
                [(1, "b", EMPTY), (1, "b", ([("in", 0)], [])), (1, "b", ([], [("in", 0)]))]]
        check_any_values(self, lambda value: is_again(S, SN, value), good)
        wrong = [[], [(1, "a", EMPTY)], [(0, "a", EMPTY), (1, "b", EMPTY)], [(1, "b", EMPTY), (1, "b", ((), []))],
                 [(1, "b", ([("in", 1)], [])), (1, "b", ((("in", 1),), ()))], [(True, "b", EMPTY)], [(1, "c", EMPTY)],
                 [(1, "b", [[], []])], [[1, "b", EMPTY]], [(1, "b", EMPTY), None], [(2, "b", EMPTY)], [(1, "b")],
                 [(1, "b", ([("in", True)], []))], {(1, "b"): 2}, [(1, "b", ([["in", 1]], []))]]
        for value in wrong:
            self.assertIs(is_again(S, SN, value), False, value)
        for value in ([], (), [(1, "a", EMPTY)]):
            self.assertIs(is_again(SN, S, value), True)
        self.assertIs(is_again(thing=[(1, "b", EMPTY)], new=SN, old=S), True)
        self.assertIs(is_again(S, SN, {}), False)
        self.assertIs(is_again(SN, S, {}), False)


class TellingTest(unittest.TestCase):
    def test_known(self):
        self.assertEqual(telling(SN, S, (1, "a", EMPTY)), ("told", 1, [(1, (0, "a", EMPTY))]))
        self.assertEqual(telling(reading=(1, "a", ([("in", 4)], [])), new=S, old=SN)[:2], ("told", 1))
        word, mix = telling(S, N, (1, "a", EMPTY))
        self.assertEqual(word, "untold")
        self.assertEqual(sum(coefficient for coefficient, _ in mix), 0)
        # What is always 0, and what is always the same.
        for old, reading in ((S, (1, "a", EMPTY)), (NOTHING, (1, "a", EMPTY)), (NOTHING, (1, "b", EMPTY))):
            word, over, blend = telling(old, FLAT, reading)
            self.assertEqual(word, "told")
            self.assertGreater(len(blend), 0)
            self.assertIs(is_telling(old, FLAT, reading, (word, over, blend)), True)

    def test_random(self):
        words = set()
        for chance, (old, new), plain in some_versions(81, 10, [2]):
            for _ in range(4):
                reading = 1, chance.choice(new.names), chance.choice(plain.surroundings)
                found = telling(old, new, reading)
                words.add(found[0])
                self.assertEqual(found, telling(old, new, reading))
                self.assertIs(is_telling(old, new, reading, found), True)
                row = plain.row(*reading)
                hangs = rank_of(plain.rows[0] + [row]) == len(plain.rows[0])
                self.assertEqual(found[0], "told" if hangs else "untold")
                if hangs:
                    _, over, blend = found
                    self.assertTrue(over >= 1 and all(item is None or item[0] == 0 for _, item in blend))
                    self.assertEqual([over * x for x in row], plain.blended(blend))
                    self.assertIs(is_telling(old, new, reading, ("told", over, blend + [(1, None)])), False)
                    self.assertIs(is_telling(old, new, reading, ("told", 2 * over, list(blend) * 2)), True)
                    self.assertIs(is_telling(old, new, reading, ("untold", [(1, [])])), False)
                else:
                    mix = found[1]
                    self.assertEqual(sum(coefficient for coefficient, _ in mix), 0)
                    self.assertNotEqual(plain_told_of_mix(new, reading[1:], mix), 0)
                    for name, surrounding in product(old.names, plain.surroundings[:10]):
                        self.assertEqual(plain_told_of_mix(old, (name, surrounding), mix), 0)
        self.assertEqual(words, {"told", "untold"})

    def test_is_telling(self):
        reading = (1, "a", ([("in", 4)], []))
        own = (0, "a", EMPTY)
        good = [("told", 1, [(1, own), (4, None)]), ("told", 2, ((2, own), (8, None))), ("told", 1, [(1, (0, "a", reading[2]))]),
                ("told", 1, [(2, own), (-1, own), (4, None)]), ("told", 1, [(1, own), (5, None), (-1, None)]),
                ("told", 1, [(1, own), (4, None), (3, (0, "b", EMPTY)), (-3, (0, "b", ((), ())))])]
        check_any_values(self, lambda value: is_telling(SN, S, reading, value), good)
        wrong = [("told", 1, [(1, own)]), ("told", 0, [(1, own), (4, None)]), ("told", 0, [(1, None), (-1, None)]), ("told", True, [(1, own), (4, None)]),
                 ["told", 1, [(1, own), (4, None)]], ("told", 1, [(1, reading)]), ("told", 1, []), ("told", 1, [(0, own), (4, None)]),
                 ("told", 1, [[1, own], (4, None)]), ("told", 1, [(1, own), (4, 0)]), ("told", -1, [(-1, own), (-4, None)]),
                 ("told", 1, {1: 2}), ("untold", [(1, []), (-1, [("in", 1)])]), ("told", 1, [(1, (0, "c", EMPTY))]),
                 ("told", 1, [(True, own), (4, None)]), ("told", 1), ("untold",), ("told", 1, [(1, own), (4, None)], 1), (1, 1, 1)]
        for value in wrong:
            self.assertIs(is_telling(SN, S, reading, value), False, value)
        many = (1, "b", EMPTY)
        mix = [(1, [("in", 2)]), (-1, [("in", 1), ("in", 1)])]
        check_any_values(self, lambda value: is_telling(S, SN, many, value), [("untold", mix), ("untold", tuple(mix))])
        wrong = [("untold", mix + [(1, [])]), ("untold", [(1, [("in", 2)]), (-1, [("in", 1)])]), ("untold", mix, 1), ["untold", mix],
                 ("untold", [(1, [("in", 2)]), (-1, [("out", -2)])]), ("untold", []), ("untold", [(1, [("in", True)])]),
                 ("told", mix), ("untold", [[1, [("in", 2)]], (-1, [("in", 1), ("in", 1)])])]
        for value in wrong:
            self.assertIs(is_telling(S, SN, many, value), False, value)
        self.assertIs(is_telling(thing=("untold", mix), reading=many, new=SN, old=S), True)


class LedgerTest(unittest.TestCase):
    def test_known(self):
        for versions, lines, plain in [
                ([S, S], [(1, 1), (0, 1)], [1, 0]), ([S, N], [(1, 1), (1, 1)], [1, 1]), ([S, N, S], [(1, 1), (1, 2), (0, 1)], [1, 1, 1]),
                ([SN, NOTHING, SN], [(2, 2), (0, 2), (0, 2)], [2, 0, 2]), ([S, NOTHING], [(1, 1), (0, 0)], [1, 0]),
                ([NOTHING, FLAT], [(0, 0), (0, 0)], [0, 0]), ([C, SN], [(5, 5), (0, 2)], [5, 0]),
                ([S, N, L, SN], [(1, 1), (1, 2), (2, 4), (0, 2)], [1, 1, 2, 2])]:
            self.assertEqual(ledger(versions), lines)
            self.assertEqual(forgetful(tuple(versions)), plain)
        self.assertEqual(ledger(versions=(S, S, S, S)), [(1, 1), (0, 1), (0, 1), (0, 1)])
        self.assertEqual(forgetful(versions=[S, S]), [1, 0])

    def test_random(self):
        for chance, versions, plain in some_versions(82, 12, [2, 3, 4]):
            many = len(versions)
            lines, plainly = ledger(versions), forgetful(versions)
            self.assertEqual(lines, ledger(tuple(versions)))
            self.assertEqual(sum(read for read, _ in lines), rank_of(plain.of(0, many)) - 1)
            for at in range(many):
                ahead, up_to = plain.of(0, at), plain.of(0, at + 1)
                read = rank_of(up_to) - (rank_of(ahead) if at else 1)
                held = rank_of(up_to) + rank_of(plain.of(at, many)) - rank_of(plain.of(0, many)) - 1
                self.assertEqual(lines[at], (read, held))
                own = plain.rows[at]
                self.assertEqual(plainly[at], rank_of(own) - 1 if at == 0 else
                                 rank_of(plain.rows[at - 1] + own) - rank_of(plain.rows[at - 1]))
                self.assertGreaterEqual(plainly[at], read)
                self.check_holding(chance, versions, plain, at, held)

    def check_holding(self, chance, versions, plain, at, held):
        found = holding(versions, at)
        self.assertEqual(found, holding(at=at, versions=tuple(versions)))
        self.assertEqual(len(found), held)
        self.assertTrue(all(item is None or item[0] <= at for blend in found for _, item in blend))
        rows = [plain.ones] + [plain.blended(blend) for blend in found]
        self.assertEqual(rank_of(rows), held + 1)
        # All of this version hangs on it; it lies in what is told up to here, and in what is told from here on.
        self.assertEqual(rank_of(rows + plain.rows[at]), held + 1)
        self.assertEqual(rank_of(rows + plain.of(0, at + 1)), rank_of(plain.of(0, at + 1)))
        self.assertEqual(rank_of(rows + plain.of(at, len(versions))), rank_of(plain.of(at, len(versions))))
        self.assertIs(is_holding(versions, at, found), True)
        self.assertIs(is_holding(versions, at, tuple(found) + ([(3, None)],)), True)
        if found:
            out = chance.randrange(held)
            self.assertIs(is_holding(versions, at, found[:out] + found[out + 1:]), False)

    def test_is_holding(self):
        first, second = [(1, (0, "a", EMPTY))], [(1, (1, "a", EMPTY))]
        versions = [S, N, S]
        good = [[first, second], (tuple(first), second), [[(2, (0, "a", EMPTY)), (1, (1, "a", EMPTY))], second],
                [first, [(3, (1, "a", ([("in", 1)], []))), (5, None)]], [first, second, first, [(1, None)]]]
        check_any_values(self, lambda value: is_holding(versions, 1, value), good)
        wrong = [[], [first], [second], [first, [(1, (2, "a", EMPTY))]], [first, [(1, (True, "a", EMPTY))]], [first, second, []],
                 [first, second, [(0, None)]], [first, second, [(1, 0)]], [first, second, None], [first, [[1, (1, "a", EMPTY)]]],
                 [[(1, (0, "a", EMPTY)), (-1, (0, "a", ((), ())))], second], {0: first}, [first, [(1, (1, "b", EMPTY))]],
                 [first, [(1, None)]]]
        for value in wrong:
            self.assertIs(is_holding(versions, 1, value), False, value)
        # At the last version the sum of the first one is told by its own readings, too.
        self.assertIs(is_holding(versions, 2, [[(1, (2, "a", EMPTY))]]), True)
        self.assertIs(is_holding(versions, 2, [first]), True)
        self.assertIs(is_holding(thing=[], at=0, versions=[NOTHING, S]), True)

    def test_same_lists_are_not_shared(self):
        kept = copy.deepcopy(holding([S, N, S], 1))
        for blend in holding([S, N, S], 1):
            for _, item in blend:
                item[2][0].append(1)
            blend.append(2)
        self.assertEqual(holding([S, N, S], 1), kept)
        for asked in (lambda: again(S, SN), lambda: ledger([S, N]), lambda: forgetful([S, N]), lambda: told_questions(SN, S),
                      lambda: telling(S, N, (1, "a", EMPTY))[1], lambda: telling(SN, S, (1, "a", EMPTY))[2]):
            kept = copy.deepcopy(asked())
            asked().append(1)
            self.assertEqual(asked(), kept)


class PlacesTest(unittest.TestCase):
    def test_known(self):
        self.assertEqual(turned_places(S, SN, "a", 5), ())
        self.assertEqual(turned_places(S, SN, "b", 3), (0, 1, 2))
        self.assertEqual(turned_places(many=1, name="b", new=SN, old=S), (0,))
        self.assertEqual(turned_places(S, N, "a", 12), tuple(range(12)))
        self.assertEqual(turned_places(NOTHING, FLAT, "b", 4), ())
        self.assertEqual(turned_places(FLAT, NOTHING, "a", 1), ())

    def test_first_and_last(self):
        # How many rows stand ahead, times what a row brings: what is ahead of the first piece is nothing.
        weighed = book_of(a=CUTS)
        sums = book_of(a="sum", b="many", c=("cuts", "many", "many"))
        for old, new, name in ((sums, weighed, "a"), (weighed, sums, "b"), (weighed, sums, "c"), (L, weighed, "a")):
            self.check(old, new, name)
        # The last number: only of the last piece must it be known what it is without rows behind.
        known = Book(LOOPS, PATTERNS, {"a": "last"})
        ends = Book({"x": Loop({"x": 0, "y": 1}, {"in": {"x": (("y", 1, 1),), "y": ()}, "out": {"x": (), "y": (("y", 0, 1),)}},
                               (("x", 0, 1),))}, {}, {"a": "x"})
        self.check(known, ends, "a")
        self.check(ends, known, "a")

    def check(self, old, new, name):
        plain = Plain(random.Random(84), [old, new])
        olds = plain.rows[0]
        for many in (1, 2, 3, 4):
            wanted = []
            for place in range(many):
                rows = [plain.row(1, name, ([] if place == 0 else ahead, [] if place == many - 1 else behind))
                        for ahead, behind in plain.surroundings]
                if rank_of(olds + rows) > rank_of(olds):
                    wanted.append(place)
            self.assertEqual(turned_places(old, new, name, many), tuple(wanted))
            for marks in product([False, True], repeat=many):
                self.assertIs(is_had(old, new, name, list(marks)), all(marks[place] for place in wanted))
        return wanted

    def test_some_places_only(self):
        # Of what comes ahead of all rows that go out the first piece tells by itself what it is.
        start = Loop({"x": 1, "y": 0}, {"in": {"x": (("x", 0, 1),), "y": (("x", 1, 1), ("y", 0, 1))},
                                        "out": {"x": (), "y": (("y", 0, 1),)}}, (("y", 0, 1),))
        total = Loop({"s": 0}, {"in": {"s": (("", 1, 1), ("s", 0, 1))}, "out": {"s": (("s", 0, 1),)}}, (("s", 0, 1),))
        early = Book({"x": start, "s": total}, {}, {"a": "x"})
        whole = Book({"x": start, "s": total}, {}, {"a": "s"})
        self.assertEqual(self.check(early, whole, "a"), list(range(4)))
        self.assertEqual(self.check(whole, early, "a"), list(range(4)))
        scaled = Loop({"x": 3, "y": 0}, {"in": {"x": (("x", 0, 1),), "y": (("x", 1, 1), ("y", 0, 1))},
                                         "out": {"x": (), "y": (("y", 0, 1),)}}, (("y", 0, 1),))
        self.assertEqual(self.check(early, Book({"x": scaled}, {}, {"a": "x"}), "a"), [])

    def test_random(self):
        found = set()
        for _, (old, new), plain in some_versions(83, 8, [2]):
            for name in new.names:
                found.add(tuple(self.check(old, new, name)))
        self.assertTrue(len(found) > 1)

    def test_is_had(self):
        self.assertIs(is_had(S, SN, "b", [True, True]), True)
        self.assertIs(is_had(S, SN, "b", (True, False)), False)
        self.assertIs(is_had(marks=[False] * 12, name="a", new=SN, old=S), True)
        self.assertIs(is_had(S, SN, "b", [True] * 12), True)


class ErrorTest(unittest.TestCase):
    def pairs(self, old, new):
        """All functions of two books, with wrong parameters behind them."""
        return [lambda: told_questions(old, new), lambda: read_again(old, new), lambda: again(old, new),
                lambda: is_again(old, new, None), lambda: telling(old, new, None), lambda: is_telling(old, new, None, None),
                lambda: turned_places(old, new, None, None), lambda: is_had(old, new, None, None)]

    def test_old_and_new(self):
        for value in ODD_VALUES:
            for other in (S, value):
                for work in self.pairs(value, other):
                    with self.assertRaises(BadBook) as caught:
                        work()
                    self.assertEqual(caught.exception.part, "old")
            for work in self.pairs(S, value):
                with self.assertRaises(BadBook) as caught:
                    work()
                self.assertEqual(caught.exception.part, "new")
        for old, new in ((S, OTHER), (OTHER, S)):
            for work in self.pairs(old, new):
                self.assertRaises(OtherKinds, work)

    def rows(self, versions):
        return [lambda: ledger(versions), lambda: forgetful(versions), lambda: holding(versions, None),
                lambda: is_holding(versions, None, None)]

    def test_versions(self):
        for value in [*ODD_VALUES, [S], [S] * 5, [None], [S] * 4 + [None], {0: S, 1: S}, S]:
            if not (isinstance(value, (list, tuple)) and 2 <= len(value) <= 4):
                for work in self.rows(value):
                    with self.assertRaises(BadBooks) as caught:
                        work()
                    self.assertIsNone(caught.exception.at)
        for versions, at in [([S, None], 1), ([None, S], 0), ([S, S, OTHER, None], 2), ([OTHER, S], 1), ((S, N, L, "a"), 3),
                             ([None, None], 0), ([S, OTHER, N], 1)]:
            for work in self.rows(versions):
                with self.assertRaises(BadBooks) as caught:
                    work()
                self.assertEqual(caught.exception.at, at)

    def test_indexes(self):
        for value in [*ODD_VALUES, 2, -2, "0"]:
            if value != 0 or value is False:
                for asked in (holding, lambda *told: is_holding(*told, None)):
                    with self.assertRaises(NoVersion) as caught:
                        asked([S, N], value)
                    self.assertIs(caught.exception.at, value)

    def test_readings(self):
        for value in [*ODD_VALUES, (0, "a", EMPTY), (1, "c", EMPTY), (True, "a", EMPTY), [1, "a", EMPTY], (1, "a"), (2, "a", EMPTY),
                      (1, "a", [[], []]), (1, "a", ([("in", True)], [])), (1, "a", EMPTY, 1), (1, "b", EMPTY)]:
            self.assertRaises(BadReading, telling, SN, S, value)
            self.assertRaises(BadReading, is_telling, SN, S, value, None)

    def test_names_and_numbers(self):
        for value in [*ODD_VALUES, "b", "sum"]:
            if value != "a":
                for asked in (turned_places, is_had):
                    with self.assertRaises(NoQuestion) as caught:
                        asked(SN, S, value, None)
                    self.assertIs(caught.exception.name, value)
        for value in [*ODD_VALUES, 13, -3, 0, "1"]:
            with self.assertRaises(BadNumber) as caught:
                turned_places(S, SN, "a", value)
            self.assertEqual(caught.exception.part, "many")
        for value in [*ODD_VALUES, [1], [True, 1], [True] * 13, [True, None], {0: True}, ["True"]]:
            self.assertRaises(BadMarks, is_had, S, SN, "a", value)
        self.assertEqual(turned_places(S, SN, "a", 1), ())


if __name__ == "__main__":
    unittest.main()
