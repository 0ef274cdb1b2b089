"""Points 100 to 103: checks, silent and wrong workers, schemes."""

import copy
import random
import unittest
from fractions import Fraction
from itertools import combinations

from stillknown.checks import (
    after_change, answers_of, checks_of, faults, is_unborne, least_scheme, mended, power_scheme, told_back, unborne,
)
from stillknown.errors import (
    BadBook, BadChecks, BadCount, BadScheme, BadSeat, BadSeats, BadTuples, BadWidth, TooMany, Unfit,
)
from stillknown.handing import hand_over, handed, told_at
from tests.books import FLAT, KINDS, LARGE, LASTS, NOTHING, RICH, TWO
from tests.plain import ODD_VALUES, random_book, random_questions, random_rows, rank_of

BAD_TUPLES = (*ODD_VALUES, {0: ()}, {10: ()}, {True: (1,)}, {"1": ()}, {1: [1]}, {1: (True,)}, {1: None}, {1: (1, None)},
              {1: (1,), 2: (1, 2)}, {1: (0,) * 46}, {seat: () for seat in range(1, 10)}, {(1,): ()}, {1: 5}, [(1, ())])
BAD_COUNTS = (*ODD_VALUES[:3], -1, 5, "1", [], {}, (1,), 10 ** 50)


def plain_checks(tuples, count):
    """The checks by the words of point 100."""
    width = len(next(iter(tuples.values())))
    return [tuple(sum(seat ** j * tuples[seat][at] for seat in tuples) for at in range(width)) for j in range(count)]


def random_tuples(chance, many, width, size=20):
    """Tuples made at random."""
    return {seat: tuple(chance.randint(-size, size) for _ in range(width)) for seat in chance.sample(range(1, 10), many)}


def can_solve(lines, right):
    """Whether lines of numbers times some fractions give the numbers to the right of them."""
    rows = [[Fraction(x) for x in line] + [Fraction(y)] for line, y in zip(lines, right)]
    for at in range(len(lines[0]) if lines else 0):
        pivot = next((row for row in rows if row[at] and not any(row[:at])), None)
        if pivot is None:
            continue
        rows = [row if row is pivot else [x - row[at] / pivot[at] * y for x, y in zip(row, pivot)] for row in rows]
    return not any(row[-1] and not any(row[:-1]) for row in rows)


def plain_faults(tuples, checks):
    """All lots of seats and of checks, the smaller ones first."""
    seats = sorted(tuples)
    for many in range(len(checks) + 1):
        found = []
        for workers in range(many + 1):
            for lot in combinations(seats, workers):
                for gone in combinations(range(len(checks)), many - workers):
                    powers = [j for j in range(len(checks)) if j not in gone]
                    lines = [[seat ** j for seat in lot] for j in powers]
                    rights = [[checks[j][at] - sum(seat ** j * tuples[seat][at] for seat in seats if seat not in lot)
                               for j in powers] for at in range(len(tuples[seats[0]]))]
                    if all(can_solve(lines, right) for right in rights):
                        found.append((lot, gone))
        if found:
            return many, sorted(found)


class ChecksTest(unittest.TestCase):
    def test_known(self):
        self.assertEqual(checks_of({2: (1, 5), 7: (0, -1)}, 3), [(1, 4), (2, 3), (4, -29)])
        self.assertEqual(checks_of(count=0, tuples={2: (1,)}), [])
        self.assertEqual(checks_of({9: (1,) * 45}, 4), [(9 ** j,) * 45 for j in range(4)])
        self.assertEqual(checks_of({3: (), 1: ()}, 4), [()] * 4)

    def test_random(self):
        chance = random.Random(100)
        for _ in range(40):
            tuples = random_tuples(chance, chance.randint(1, 8), chance.choice([0, 1, 3, 45]), 10 ** 20)
            passed = copy.deepcopy(tuples)
            for count in range(5):
                self.assertEqual(checks_of(tuples, count), plain_checks(tuples, count))
            self.assertEqual(tuples, passed)

    def test_after_change(self):
        chance = random.Random(101)
        for _ in range(60):
            width, count = chance.choice([0, 1, 4]), chance.randint(0, 4)
            tuples = random_tuples(chance, chance.randint(2, 7), width)
            checks = plain_checks(tuples, count)
            passed = list(checks)
            seat = chance.randint(1, 9)
            later = chance.choice([None, tuple(chance.randint(-9, 9) for _ in range(width))])
            changed = {**tuples, seat: later}
            if later is None:
                del changed[seat]
            found = after_change(checks, seat, tuples.get(seat), later)
            self.assertEqual(found, plain_checks(changed, count))
            self.assertEqual(checks, passed)
            self.assertIsNot(found, checks)
        self.assertEqual(after_change(later=(1, 2), before=None, seat=3, checks=[(0, 0), (0, 0)]), [(1, 2), (3, 6)])
        self.assertEqual(after_change([], 3, None, (1,) * 45), [])
        self.assertEqual(after_change([], 3, (1,), (2,)), [])
        self.assertEqual(after_change((), 3, None, None), [])
        self.assertEqual(after_change([(5,)], 1, None, None), [(5,)])

    def test_errors(self):
        for value in BAD_TUPLES:
            with self.assertRaises(BadTuples):
                checks_of(value, None)
        for value in BAD_COUNTS:
            with self.assertRaises(BadCount):
                checks_of({1: ()}, value)
        self.assertEqual(checks_of({seat: () for seat in range(1, 9)}, 1), [()])
        for value in (*ODD_VALUES, [()] * 5, [[1]], [(1,), (1, 2)], [(True,)], [(0,) * 46], [None], {(1,): 2}):
            if isinstance(value, (list, tuple)) and all(item == () for item in value) and len(value) < 5:
                continue
            with self.assertRaises(BadChecks):
                after_change(value, None, 1, 1)
        for value in (*ODD_VALUES, 0, 10, -3):
            with self.assertRaises(BadSeat):
                after_change([(1,)], value, [], [])
        for value in (0, True, [1], "1", (), (1, 2), (True,), (None,), ({},)):
            with self.assertRaises(BadTuples):
                after_change([(1,)], 1, value, None)
            with self.assertRaises(BadTuples):
                after_change([(1,)], 1, None, value)
        for before, later in [((1,), (1, 2)), (None, (0,) * 46), ((0,) * 46, None), ((1,), [1])]:
            with self.assertRaises(BadTuples):
                after_change([], 1, before, later)


class SilentTest(unittest.TestCase):
    def test_random(self):
        chance = random.Random(1010)
        seen = set()
        for _ in range(120):
            width = chance.choice([0, 1, 2, 45])
            tuples = random_tuples(chance, chance.randint(1, 8), width, 10 ** 6)
            checks = plain_checks(tuples, chance.randint(0, 4))
            heard = {seat: None if chance.random() < 0.4 else tuples[seat] for seat in tuples}
            told = [None if chance.random() < 0.3 else check for check in checks]
            silent, left = list(heard.values()).count(None), len(told) - told.count(None)
            if left == 0 and silent == len(heard):
                with self.assertRaises(BadChecks):
                    told_back(heard, told)
                continue
            passed = copy.deepcopy((heard, told))
            found = told_back(heard, told)
            seen.add((silent > left) - (silent < left))
            self.assertEqual(found, None if silent > left else tuples)
            if found is not None:
                self.assertEqual(list(found), sorted(tuples))
                self.assertIsNot(found, heard)
            self.assertEqual((heard, told), passed)
        self.assertEqual(seen, {-1, 0, 1})

    def test_unfit(self):
        # One number more than the checks tell of: not whole, or none at all.
        self.assertEqual(told_back({1: (4,), 3: None}, [None, (7,)]), {1: (4,), 3: (1,)})
        for told in ([None, (8,)], [(5,), (8,)], [(5,), (7,), (14,)]):
            with self.assertRaises(Unfit):
                told_back(heard={3: None, 1: (4,)}, checks=told)
        with self.assertRaises(Unfit):
            told_back({1: (1, 2), 2: (3, 4)}, [(4, 7)])
        self.assertEqual(told_back({2: (3, 4), 1: (1, 2)}, [(4, 6)]), {1: (1, 2), 2: (3, 4)})
        self.assertEqual(told_back({1: (1, 2)}, []), {1: (1, 2)})
        self.assertEqual(told_back({1: ()}, [None, ()]), {1: ()})
        self.assertEqual(told_back({1: None}, ((3, 4),)), {1: (3, 4)})
        self.assertIsNone(told_back({1: None, 2: None}, [(3, 4)]))
        # Too few checks: None, also if what is heard agrees in nothing.
        self.assertIsNone(told_back({1: None, 2: None, 3: (1,)}, [(4,), None]))

    def test_errors(self):
        for value in BAD_TUPLES:
            if value == {1: None}:
                continue
            with self.assertRaises(BadTuples):
                told_back(value, None)
        for value in ({1: None, 0: None}, {1: None, 2: [1]}, {1: None, 2: (1,), 3: ()}):
            with self.assertRaises(BadTuples):
                told_back(value, None)
        for value in (None, 1, "a", {}, [()] * 5, [(1, 2)], [[1]], [(True,)], [(1,), ()], [1], [(1,), "a"], {(1,): 1}, [None] * 5):
            with self.assertRaises(BadChecks):
                told_back({1: (1,), 2: None}, value)
        for value in ([], [None], [None] * 4, [(1,), (1, 2)], [(0,) * 46]):
            with self.assertRaises(BadChecks):
                told_back({1: None, 2: None}, value)


class AnswersTest(unittest.TestCase):
    def test_against_all_rows(self):
        chance = random.Random(1011)
        books = [TWO, RICH, LASTS, FLAT, NOTHING]
        while len(books) < 14:
            book = random_questions(chance, random_book(chance, KINDS, (0, 1)), 4, 3, 6)
            if handed(book) <= 9:
                books.append(book)
        for book in books:
            paper = hand_over(book)
            for many in (1, 3):
                pieces = {seat: random_rows(chance, book.kinds, 4, 9) for seat in chance.sample(range(1, 10), many)}
                tuples = {seat: told_at(book, paper[0], pieces[seat]) for seat in pieces}
                whole = [row for seat in sorted(pieces) for row in pieces[seat]]
                answers = answers_of(book, tuples)
                self.assertEqual(answers, book.answers(whole))
                self.assertEqual(list(answers), list(book.names))
                # The same, after one worker was silent and one check was heard.
                lost = chance.choice(sorted(pieces))
                back = told_back({**tuples, lost: None}, [None, checks_of(tuples, 2)[1]])
                self.assertEqual(answers_of(tuples=back, book=book), answers)

    def test_errors(self):
        for value in ODD_VALUES:
            with self.assertRaises(BadBook) as caught:
                answers_of(value, None)
            self.assertIsNone(caught.exception.part)
        with self.assertRaises(TooMany) as caught:
            answers_of(LARGE, None)
        self.assertEqual(caught.exception.most, 12)
        for value in (*BAD_TUPLES, {1: ()}, {1: (1, 2, 3)}, {1: (1,), 2: (1,)}):
            with self.assertRaises(BadTuples):
                answers_of(TWO, value)
        self.assertEqual(sorted(answers_of(TWO, {1: (3, 4), 5: (1, 1)})), ["a", "b"])

    def test_not_whole(self):
        # Of some books the papers have an over from 2 on: then not all tuples are those of pieces.
        chance = random.Random(1012)
        refused = 0
        for _ in range(80):
            book = random_questions(chance, random_book(chance, KINDS), 4, 3, 6)
            if handed(book) > 6 or handed(book) == 0 or hand_over(book)[3] == 1:
                continue
            for _ in range(5):
                tuples = random_tuples(chance, 2, handed(book), 5)
                try:
                    answers_of(book, tuples)
                except BadTuples:
                    refused += 1
        self.assertGreater(refused, 0)


class FaultsTest(unittest.TestCase):
    def test_known(self):
        tuples = {1: (1, 2), 3: (4, 5), 4: (0, 0)}
        checks = checks_of(tuples, 4)
        self.assertEqual(faults(tuples, checks), (0, [((), ())]))
        self.assertEqual(mended(tuples, checks), tuples)
        wrong = {**tuples, 3: (4, 6)}
        self.assertEqual(faults(checks=checks, tuples=wrong), (1, [((3,), ())]))
        self.assertEqual(mended(checks=checks, tuples=wrong), tuples)
        self.assertEqual(faults(wrong, checks[:1]), (1, [((), (0,)), ((1,), ()), ((3,), ()), ((4,), ())]))
        self.assertIsNone(mended(wrong, checks[:1]))
        self.assertEqual(faults(tuples, [checks[0], (0, 0), *checks[2:]]), (1, [((), (1,))]))
        self.assertEqual(mended(tuples, [checks[0], (0, 0), *checks[2:]]), tuples)
        self.assertEqual(faults({1: (), 2: ()}, [()]), (0, [((), ())]))

    def test_against_all_lots(self):
        chance = random.Random(102)
        counts = {}
        for _ in range(110):
            tuples = random_tuples(chance, chance.choice([1, 2, 3, 5, 8]), chance.choice([1, 1, 2, 3]), 5)
            checks = plain_checks(tuples, chance.randint(1, 4))
            for _ in range(chance.randint(0, 3)):
                if chance.random() < 0.7:
                    seat = chance.choice(sorted(tuples))
                    tuples[seat] = tuple(x + chance.randint(-2, 2) for x in tuples[seat])
                else:
                    at = chance.randrange(len(checks))
                    checks[at] = tuple(x + chance.randint(-2, 2) for x in checks[at])
            passed = copy.deepcopy((tuples, checks))
            found = faults(tuples, checks)
            self.assertEqual(found, plain_faults(tuples, checks), (tuples, checks))
            counts[found[0], len(found[1]) > 1] = counts.get((found[0], len(found[1]) > 1), 0) + 1
            if len(found[1]) > 1:
                self.assertIsNone(mended(tuples, checks))
            else:
                self.check_mended(tuples, checks, *found[1][0])
            self.assertEqual((tuples, checks), passed)
        self.assertTrue({(0, False), (1, True), (1, False), (2, True), (2, False)} <= set(counts), counts)

    def check_mended(self, tuples, checks, seats, indexes):
        try:
            whole = mended(tuples, checks)
        except Unfit:
            self.assertNotEqual(seats, ())
            return
        self.assertEqual(list(whole), sorted(tuples))
        for seat in tuples:
            if seat not in seats:
                self.assertEqual(whole[seat], tuples[seat])
        for j, check in enumerate(plain_checks(whole, len(checks))):
            if j not in indexes:
                self.assertEqual(check, checks[j])

    def test_few_wrong_ones_are_found(self):
        chance = random.Random(1020)
        for _ in range(40):
            tuples = random_tuples(chance, chance.randint(2, 8), 3, 10 ** 30)
            checks = plain_checks(tuples, 4)
            seats = chance.sample(sorted(tuples), chance.randint(0, 2))
            wrong = {seat: tuple(x + 1 + chance.randint(0, 5) for x in tuples[seat]) if seat in seats else tuples[seat]
                     for seat in tuples}
            self.assertEqual(faults(wrong, checks), (len(seats), [(tuple(sorted(seats)), ())]))
            self.assertEqual(mended(wrong, checks), tuples)

    def test_not_whole(self):
        # Only the seat 2 can be wrong, and by a half.
        halves = {2: (0,), 6: (0,), 9: (0,)}
        checks = [(7,), (1,), (2,), (4,)]
        self.assertEqual(faults(halves, checks), plain_faults(halves, checks))
        self.assertEqual(faults(halves, checks), (2, [((2,), (0,))]))
        with self.assertRaises(Unfit):
            mended(halves, checks)

    def test_errors(self):
        for value in BAD_TUPLES:
            for call in (faults, mended):
                with self.assertRaises(BadTuples):
                    call(value, None)
        for value in (*ODD_VALUES, [], [()] * 5, [(1,)], [(1, 2), (1,)], [[1, 2]], [(1, True)], [None], [(1, 2)] * 5, {(1, 2): 1}):
            for call in (faults, mended):
                with self.assertRaises(BadChecks):
                    call({1: (1, 2), 4: (0, 0)}, value)
        self.assertEqual(faults({1: (1, 2)}, ((1, 2),)), (0, [((), ())]))


class SchemeTest(unittest.TestCase):
    def test_power_scheme(self):
        self.assertEqual(power_scheme((2, 5), 2, 2), [(1, 0, 1, 0), (0, 1, 0, 1), (2, 0, 5, 0), (0, 2, 0, 5)])
        self.assertEqual(power_scheme(count=0, width=6, seats=(1,)), [])
        chance = random.Random(103)
        for _ in range(20):
            tuples = random_tuples(chance, chance.randint(1, 8), chance.randint(1, 6))
            seats, width = tuple(sorted(tuples)), len(tuples[min(tuples)])
            flat = [x for seat in seats for x in tuples[seat]]
            for count in range(5):
                held = [sum(x * y for x, y in zip(line, flat)) for line in power_scheme(seats, width, count)]
                self.assertEqual(held, [x for check in plain_checks(tuples, count) for x in check])
        self.assertEqual(len(power_scheme((1, 2, 3, 4, 5, 6, 7, 8), 6, 4)), 24)

    def plain_unborne(self, seats, width, scheme, silent):
        """Whether some choice of so many seats has fewer free columns than numbers."""
        for lost in combinations(range(len(seats)), silent):
            table = [[line[at * width + k] for at in lost for k in range(width)] for line in scheme]
            if silent and rank_of(table) < silent * width:
                return True
        return False

    def test_against_all_choices(self):
        chance = random.Random(1030)
        seen = set()
        for _ in range(80):
            seats = tuple(sorted(chance.sample(range(1, 10), chance.choice([1, 2, 3, 4, 8]))))
            width, silent = chance.randint(1, 2), chance.randint(0, min(3, len(seats)))
            scheme = [tuple(chance.choice([0, 0, 1, 1, -1, 2]) for _ in range(len(seats) * width))
                      for _ in range(chance.choice([silent * width, silent * width + 1, 0, 1, 7]))]
            passed = copy.deepcopy(scheme)
            found = unborne(seats, width, scheme, silent)
            self.assertEqual(found is not None, self.plain_unborne(seats, width, scheme, silent))
            seen.add((found is None, silent > 0))
            self.assertEqual(found, unborne(seats, width, tuple(scheme), silent))
            if found is not None:
                lost, numbers = found
                self.assertTrue(isinstance(lost, tuple) and isinstance(numbers, tuple) and any(numbers))
                self.assertEqual((len(lost), len(numbers)), (silent, silent * width))
                by_seat = {seat: numbers[at * width:(at + 1) * width] for at, seat in enumerate(lost)}
                flat = [x for seat in seats for x in by_seat.get(seat, (0,) * width)]
                self.assertTrue(all(sum(x * y for x, y in zip(line, flat)) == 0 for line in scheme))
                self.assertIs(is_unborne(seats, width, scheme, silent, found), True)
                self.assertIs(is_unborne(seats, width, scheme, silent, (lost, tuple(-7 * x for x in numbers))), True)
            self.assertEqual(scheme, passed)
        self.assertEqual(len(seen), 3)

    def test_power_schemes_bear(self):
        chance = random.Random(1031)
        for width in (1, 2, 6):
            seats = tuple(sorted(chance.sample(range(1, 10), 5)))
            for count in range(5):
                scheme = power_scheme(seats, width, count)
                for silent in range(6):
                    self.assertEqual(unborne(seats, width, scheme, silent) is None, silent <= count)
                    # No scheme with one tuple fewer bears as many.
                    if silent == count > 0:
                        self.assertIsNotNone(unborne(seats, width, scheme[1:], silent))
        self.assertIsNone(unborne((1, 9), 1, [], 0))
        self.assertEqual(unborne((1, 9), 1, [], 1)[0], (1,))
        self.assertIsNone(unborne(silent=1, scheme=[(1,)], width=1, seats=(9,)))
        eight = tuple(range(1, 9))
        self.assertIsNone(unborne(eight, 6, power_scheme(eight, 6, 4), 4))
        self.assertEqual(len(unborne(eight, 3, power_scheme(eight, 3, 4), 8)[1]), 24)

    def test_is_unborne(self):
        scheme = [(1, 1, 1)]
        for value in [((1, 2), (1, -1)), ((2, 7), (5, -5)), ((1, 7), (-3, 3))]:
            self.assertIs(is_unborne((1, 2, 7), 1, scheme, 2, value), True)
        for value in (*ODD_VALUES, ((1, 2), (0, 0)), ((1, 2), (1, 1)), ((2, 1), (1, -1)), ((1, 1), (1, -1)), ((1, 3), (1, -1)),
                      ((1,), (0,)), ((1, 3), (0, 1)), ((3, 7), (1, 0)), ((1, 2, 7), (1, -1, 0)), ((1, 2), (1, -1, 0)), ([1, 2], (1, -1)), ((1, 2), [1, -1]),
                      [(1, 2), (1, -1)], ((1, 2), (1, True)), ((True, 2), (1, -1)), ((1, 2), (1, -1), ()), ((1, 2), None)):
            self.assertIs(is_unborne((1, 2, 7), 1, scheme, 2, value), False, value)
        self.assertIs(is_unborne((1, 2), 1, [(1, 1)], 0, ((), ())), False)
        self.assertIs(is_unborne(thing=((3,), (0, 1)), silent=1, scheme=[(4, 0)], width=2, seats=(3,)), True)

    def test_scheme_errors(self):
        def all_calls(seats, width, scheme, silent):
            return [lambda: unborne(seats, width, scheme, silent), lambda: is_unborne(seats, width, scheme, silent, None)]

        for value in (*ODD_VALUES, (), [1, 2], (2, 1), (1, 1), (0, 1), (1, 10), tuple(range(1, 10)), (True, 2), ("1",), {1: 2}):
            for call in [*all_calls(value, None, None, None), lambda: power_scheme(value, None, None)]:
                with self.assertRaises(BadSeats):
                    call()
        for value in (*ODD_VALUES, 0, 7, -1):
            for call in [*all_calls((1, 2), value, None, None), lambda: power_scheme((1, 2), value, None)]:
                with self.assertRaises(BadWidth):
                    call()
        for value in (None, 1, "a", {}, [()], [(1,)], [[1, 2]], [(1, True)], [(1, 2)] * 25, [None], [(1, 2), (1, 2, 3)]):
            for call in all_calls((1, 2), 1, value, None):
                with self.assertRaises(BadScheme):
                    call()
        for value in (*BAD_COUNTS, 3):
            for call in all_calls((1, 2), 1, [(1, 2)] * 24, value):
                with self.assertRaises(BadCount):
                    call()
        for value in BAD_COUNTS:
            with self.assertRaises(BadCount):
                power_scheme((1, 2), 1, value)
            with self.assertRaises(BadCount):
                least_scheme(TWO, value)
        for value in ODD_VALUES:
            with self.assertRaises(BadBook):
                least_scheme(value, None)

    def test_least_scheme(self):
        for book in (TWO, RICH, LASTS, FLAT, NOTHING, LARGE):
            for silent in range(5):
                self.assertEqual(least_scheme(silent=silent, book=book), silent * handed(book))

    def test_pieces_span(self):
        # With fewer numbers than least_scheme tells, pieces of workers can be unlike unseen.
        paper = hand_over(TWO)
        rows = [told_at(TWO, paper[0], piece) for piece in ([], [("in", 1)], [("in", 2)])]
        self.assertEqual(rank_of([(1,) + row for row in rows]), handed(TWO) + 1)


if __name__ == "__main__":
    unittest.main()
