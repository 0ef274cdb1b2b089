"""Point 120: a live house."""

import copy
import random
import unittest

from stillknown.books import Book
from stillknown.errors import (
    BadBook, BadExpression, BadKeep, BadName, BadNumber, BadRow, NoPlace, NoQuestion, NothingDone, NotKnown, NotNow,
    StillError, TooMany,
)
from stillknown.known import knows
from stillknown.live import House
from tests.books import FLAT, LARGE, LASTS, LOOPS, NOTHING, PATTERNS, RICH, TWO
from tests.houses import PlainHouse, do, random_deed
from tests.plain import ODD_VALUES, plain_answer, random_book, random_expression, random_questions

EMPTY_HOUSE = {"rows": [], "keep": [], "numbers": (), "log": []}


def shown(house):
    """All that a house shows."""
    return copy.deepcopy((house.book.questions, house.rows, house.keep, house.numbers, house.log, house.answered(), len(house)))


def put_all(house, rows):
    """Put rows at the end, one after the other."""
    for row in rows:
        house.put(len(house), row)


class DeedsTest(unittest.TestCase):
    def test_new_house(self):
        house = House(book=TWO)
        for name, value in EMPTY_HOUSE.items():
            self.assertEqual(getattr(house, name), value)
        self.assertEqual(house.book, TWO)
        self.assertEqual(len(house), 0)
        self.assertEqual(house.answered(), {"a": 0, "b": 0})
        self.assertEqual(house.tell("sum"), 0)
        self.assertIs(house.knows("square"), True)
        for value in ODD_VALUES:
            with self.assertRaises(BadBook) as caught:
                House(value)
            self.assertIsNone(caught.exception.part)

    def test_rows(self):
        house = House(TWO)
        self.assertIsNone(house.put(0, ("in", 1)))
        house.put(at=1, row=("out", 2))
        house.put(1, ("in", 3))
        self.assertEqual(house.rows, [("in", 1), ("in", 3), ("out", 2)])
        self.assertIsNone(house.mend(2, 9))
        self.assertEqual(house.rows[2], ("out", 9))
        self.assertIsNone(house.move(at=0, to=2))
        self.assertEqual(house.rows, [("in", 3), ("out", 9), ("in", 1)])
        house.move(2, 1)
        self.assertEqual(house.rows, [("in", 3), ("in", 1), ("out", 9)])
        # A move to its own place is a deed, too.
        house.move(1, 1)
        house.mend(number=3, at=0)
        self.assertIsNone(house.strike(at=1))
        self.assertEqual(house.rows, [("in", 3), ("out", 9)])
        self.assertEqual(house.answered(), {"a": -6, "b": 2})
        self.assertEqual(house.log, [
            ("put", 0, ("in", 1)), ("put", 1, ("out", 2)), ("put", 1, ("in", 3)), ("mend", 2, 9), ("move", 0, 2),
            ("move", 2, 1), ("move", 1, 1), ("mend", 0, 3), ("strike", 1)])

    def test_row_errors(self):
        house = House(TWO)
        put_all(house, [("in", 1), ("out", 2)])
        before = shown(house)
        for value in (*ODD_VALUES, 3, -1, 10 ** 40):
            if isinstance(value, int) and not isinstance(value, bool) and 0 <= value <= 2:
                continue
            for call in (lambda: house.put(value, None), lambda: house.strike(value), lambda: house.mend(value, None),
                         lambda: house.move(value, None), lambda: house.move(1, value)):
                with self.assertRaises(NoPlace) as caught:
                    call()
                self.assertIs(caught.exception.at, value)
        for call in (lambda: house.strike(2), lambda: house.mend(2, 1), lambda: house.move(2, 0), lambda: house.move(0, 2)):
            with self.assertRaises(NoPlace):
                call()
        for value in (*ODD_VALUES, ("in",), ["in", 1], ("in", True), ("up", 1), ("in", "1"), ("in", 1, 2)):
            with self.assertRaises(BadRow):
                house.put(2, value)
        for value in ODD_VALUES:
            if not isinstance(value, int) or isinstance(value, bool):
                with self.assertRaises(BadNumber) as caught:
                    house.mend(1, value)
                self.assertEqual(caught.exception.part, "number")
        self.assertEqual(shown(house), before)
        for call in (lambda: House(TWO).strike(0), lambda: House(TWO).mend(0, 0), lambda: House(TWO).move(0, 0)):
            with self.assertRaises(NoPlace):
                call()

    def test_forty_rows(self):
        house = House(TWO)
        put_all(house, [("in", number) for number in range(40)])
        before = shown(house)
        with self.assertRaises(TooMany) as caught:
            house.put(40, ("in", 1))
        self.assertEqual(caught.exception.most, 40)
        with self.assertRaises(BadRow):
            house.put(40, ("up", 1))
        with self.assertRaises(NoPlace):
            house.put(41, ("in", 1))
        self.assertEqual(shown(house), before)
        self.assertEqual((len(house), house.tell("sum")), (40, 780))
        house.fold([("a", [])])
        self.assertEqual(len(house), 0)
        house.put(0, ("in", 1))
        self.assertEqual(house.tell("sum"), 781)

    def test_fold(self):
        house = House(RICH)
        put_all(house, [("in", 3), ("out", 5)])
        self.assertIsNone(house.fold(keep=(("b", (("in", 2),)), ("b", []))))
        self.assertEqual((house.rows, house.keep, house.numbers), ([], [("b", [("in", 2)]), ("b", [])], (0, -2)))
        self.assertEqual(house.log[-1], ("fold", [("b", [("in", 2)]), ("b", [])]))
        self.assertEqual(house.answered(), {"b": -2})
        put_all(house, [("in", 10)])
        self.assertEqual(house.answered(), {"b": 8})
        self.assertEqual(house.tell(("times", -3, "sum")), -24)
        self.assertEqual(house.tell("last"), 10)
        for expression in ("many", ("both", "sum", "sum"), ("cuts", "many", "sum")):
            with self.assertRaises(NotKnown):
                house.tell(expression=expression)
            self.assertIs(house.knows(expression=expression), False)
        self.assertIs(house.knows("sum"), True)
        # What comes anew is known behind the row that sets it.
        self.assertIs(house.knows("last"), True)
        before = shown(house)
        with self.assertRaises(NotKnown):
            house.fold([("b", []), ("a", [])])
        self.assertEqual(shown(house), before)
        # A fold behind a fold, and one of no rows.
        house.fold([("b", [])])
        self.assertEqual((house.numbers, house.answered()), ((8,), {"b": 8}))
        house.fold([])
        self.assertEqual((house.keep, house.numbers, house.answered()), ([], (), {}))
        self.assertIs(house.knows("sum"), False)
        self.assertEqual(house.tell(("times", 0, "sum")), 0)
        house.fold([])
        with self.assertRaises(NotKnown):
            house.fold([("b", [])])
        for _ in range(3):
            house.undo()
        self.assertEqual(house.rows, [("in", 10)])
        self.assertEqual(house.answered(), {"b": 8})

    def test_fold_of_no_rows(self):
        house = House(RICH)
        house.fold([("a", [("in", 7)])])
        self.assertEqual(house.numbers, (0,))
        # Nothing else is known of the folded rows, not even that there are none.
        self.assertEqual(house.answered(), {})
        house.undo()
        self.assertEqual(house.answered(), {"a": 0, "b": 0})

    def test_fold_errors(self):
        house = House(TWO)
        put_all(house, [("in", 1)])
        before = shown(house)
        for value in ODD_VALUES:
            if not isinstance(value, (list, tuple)):
                with self.assertRaises(BadKeep) as caught:
                    house.fold(value)
                self.assertIsNone(caught.exception.at)
        for value, at in [([("c", [])], 0), ([("a", []), ("a",)], 1), ([("a", [("in", 1)] * 13)], 0), ([["a", []]], 0),
                          ([("a", [])] * 13, 12), ([("a", [("in", True)])], 0), ([("a", []), None], 1), ([("a", "")], 0)]:
            with self.assertRaises(BadKeep) as caught:
                house.fold(value)
            self.assertEqual(caught.exception.at, at)
        house.fold([])
        with self.assertRaises(BadKeep):
            house.fold([("a", []), ("c", [])])
        house.undo()
        self.assertEqual(shown(house), before)
        house.fold([("a", [("in", 1)] * 12)] * 12)
        self.assertEqual(house.numbers, (13,) * 12)

    def test_learn_and_drop(self):
        house = House(TWO)
        put_all(house, [("in", 4), ("in", 5)])
        self.assertIsNone(house.learn(name="q", expression="square"))
        self.assertEqual(house.book.questions["q"], "square")
        self.assertEqual(house.answered(), {"a": 9, "b": 2, "q": 41})
        house.fold([("q", []), ("b", [])])
        # Learned behind a fold: told only if it hangs on what is kept.
        house.learn("c", ("times", 3, "square"))
        self.assertEqual(house.answered(), {"b": 2, "c": 123, "q": 41})
        with self.assertRaises(TooMany) as caught:
            house.learn("d", "sum")
        self.assertEqual(caught.exception.most, 4)
        self.assertIsNone(house.drop(name="a"))
        with self.assertRaises(TooMany) as caught:
            house.learn("d", ("cuts", "sum", "sum"))
        self.assertEqual(caught.exception.most, 9)
        for name in ("b", "q"):
            with self.assertRaises(NotNow) as caught:
                house.drop(name)
            self.assertEqual(caught.exception.word, "drop")
        house.drop("c")
        house.fold([("b", [])])
        house.drop("q")
        with self.assertRaises(NotNow):
            house.drop("b")
        house.fold([])
        with self.assertRaises(NotNow):
            house.drop("b")
        house.learn("a", "sum")
        house.drop("b")
        self.assertEqual(house.book.names, ("a",))
        self.assertEqual([deed[0] for deed in house.log[2:]], "learn fold learn drop drop fold drop fold learn drop".split())
        self.assertEqual(house.log[2], ("learn", "q", "square"))
        self.assertEqual(TWO.names, ("a", "b"))

    def test_learn_errors(self):
        house = House(TWO)
        before = shown(house)
        for value in (*ODD_VALUES, "b", "toolong", "t"):
            with self.assertRaises(BadName):
                house.learn(value, None)
        for value, spot in [(None, ()), ("zz", ()), (("plus", "sum", "zz"), (2,)), (["plus", "sum", "sum"], ()),
                            (("times", 99, "sum"), ()), ({}, ())]:
            with self.assertRaises(BadExpression) as caught:
                house.learn("c", value)
            self.assertEqual(caught.exception.spot, spot)
            for call in (house.tell, house.knows):
                with self.assertRaises(BadExpression) as caught:
                    call(value)
                self.assertEqual(caught.exception.spot, spot)
        large = ("both", ("plus", "sum", "sum"), ("plus", "sum", "sum"))
        with self.assertRaises(TooMany) as caught:
            house.learn("c", large)
        self.assertEqual(caught.exception.most, 6)
        for call in (house.tell, house.knows):
            with self.assertRaises(TooMany) as caught:
                call(large)
            self.assertEqual(caught.exception.most, 6)
        with self.assertRaises(TooMany) as caught:
            house.learn("c", ("plus", ("plus", "sum", "sum"), "sum"))
        self.assertEqual(caught.exception.most, 9)
        full = House(Book(LOOPS, PATTERNS, {name: "sum" for name in "abcd"}))
        with self.assertRaises(BadExpression):
            full.learn("e", "zz")
        with self.assertRaises(TooMany) as caught:
            full.learn("e", large)
        self.assertEqual(caught.exception.most, 4)
        for value in ODD_VALUES:
            if value != "a":
                with self.assertRaises(NoQuestion) as caught:
                    house.drop(value)
                self.assertIs(caught.exception.name, value)
        self.assertEqual(shown(house), before)

    def test_undo(self):
        house = House(RICH)
        with self.assertRaises(NothingDone):
            house.undo()
        deeds = [("put", 0, ("in", 1)), ("put", 1, ("out", 2)), ("mend", 0, 7), ("move", 1, 0), ("learn", "c", "last"),
                 ("fold", [("b", []), ("c", [])]), ("put", 0, ("in", 4)), ("drop", "a"), ("fold", [("c", [])]), ("drop", "b"),
                 ("put", 0, ("out", 4)), ("strike", 0)]
        states = []
        for deed in deeds:
            states.append(shown(house))
            do(house, deed)
        self.assertEqual(house.log, deeds)
        for state in reversed(states):
            self.assertIsNone(house.undo())
            self.assertEqual(shown(house), state)
        with self.assertRaises(NothingDone):
            house.undo()
        self.assertEqual(house, House(RICH))

    def test_nothing_is_shared(self):
        house = House(TWO)
        keep = [("a", [("in", 1)])]
        house.put(0, ("in", 2))
        house.fold(keep)
        keep[0][1].append(("in", 50))
        keep.append(("b", []))
        before = shown(house)
        house.rows.append(("in", 1))
        house.keep[0][1].append(("in", 1))
        house.keep.clear()
        house.log[1][1][0][1].append(("in", 1))
        house.log.clear()
        house.answered().clear()
        house.book.questions.clear()
        self.assertEqual(shown(house), before)
        self.assertEqual(house.keep, [("a", [("in", 1)])])
        with self.assertRaises(TypeError):
            iter(house)


class BlocksTest(unittest.TestCase):
    def test_block(self):
        house = House(TWO)
        house.put(0, ("in", 1))
        with house as same:
            self.assertIs(same, house)
            house.put(1, ("in", 2))
        self.assertEqual(len(house), 2)
        before = shown(house)
        with self.assertRaises(KeyError):
            with house:
                house.put(0, ("out", 5))
                house.fold([("a", [])])
                house.learn("c", "last")
                raise KeyError("x")
        self.assertEqual(shown(house), before)

    def test_refused_deeds_leave_a_block(self):
        house = House(TWO)
        with self.assertRaises(NoPlace):
            with house:
                house.put(0, ("in", 1))
                house.strike(5)
        self.assertEqual(house.log, [])
        with house:
            house.put(0, ("in", 1))
            with self.assertRaises(NoPlace):
                house.strike(5)
        self.assertEqual(len(house), 1)

    def test_nested_blocks(self):
        house = House(TWO)
        with house:
            house.put(0, ("in", 1))
            inner = shown(house)
            with self.assertRaises(ValueError):
                with house:
                    house.put(0, ("in", 2))
                    with house:
                        house.undo()
                        house.undo()
                        self.assertEqual(house.log, [])
                    raise ValueError("out")
            self.assertEqual(shown(house), inner)
            with house:
                house.put(1, ("in", 3))
        self.assertEqual(house.rows, [("in", 1), ("in", 3)])
        with self.assertRaises(StillError):
            with house:
                house.put(0, ("in", 4))
                with house:
                    house.put(0, ("in", 5))
                house.mend(0, None)
        self.assertEqual(house.rows, [("in", 1), ("in", 3)])

    def test_undo_of_deeds_from_ahead(self):
        house = House(TWO)
        put_all(house, [("in", 1), ("in", 2)])
        before = shown(house)
        with self.assertRaises(NothingDone):
            with house:
                house.undo()
                house.undo()
                house.undo()
        self.assertEqual(shown(house), before)
        with house:
            house.undo()
            house.put(0, ("out", 3))
        self.assertEqual(house.log, [("put", 0, ("in", 1)), ("put", 0, ("out", 3))])
        house.undo()
        house.undo()
        self.assertEqual(house, House(TWO))

    def test_tried(self):
        house = House(TWO)

        def work(given):
            self.assertIs(given, house)
            given.put(0, ("in", 6))
            return given.tell("sum")

        self.assertEqual(house.tried(work), 6)
        self.assertEqual(house.tried(work=lambda same: same.put(0, ("in", 1))), None)
        before = shown(house)

        def failing(given):
            given.undo()
            given.tried(work)
            given.put(99, None)

        with self.assertRaises(NoPlace):
            house.tried(failing)
        self.assertEqual(shown(house), before)

    def test_copy(self):
        house = House(TWO)
        house.put(0, ("in", 1))
        with self.assertRaises(ZeroDivisionError):
            with house:
                house.put(0, ("in", 2))
                other = house.copy()
                self.assertEqual(other, house)
                house.put(0, ("in", 3))
                other.put(0, ("out", 4))
                raise ZeroDivisionError
        self.assertEqual(house.rows, [("in", 1)])
        # The copy is in no block: it stays as it is.
        self.assertEqual(other.rows, [("out", 4), ("in", 2), ("in", 1)])
        with self.assertRaises(ZeroDivisionError):
            with other:
                other.undo()
                raise ZeroDivisionError
        self.assertEqual(len(other), 3)
        for _ in range(3):
            other.undo()
        self.assertEqual(other, House(TWO))
        self.assertIsInstance(other, House)

    def test_equal(self):
        one, other = House(TWO), House(Book(TWO.loops, TWO.patterns, TWO.questions))
        self.assertTrue(one == other and not one != other)
        one.put(0, ("in", 1))
        self.assertNotEqual(one, other)
        other.put(0, ("in", 1))
        self.assertEqual(one, other)
        one.fold([("a", [("in", 1)])])
        other.fold((("a", (("in", 1),)),))
        self.assertEqual(one, other)
        # The same rows by other deeds, and equal logs of unlike first books.
        one.put(0, ("in", 1))
        one.strike(0)
        self.assertNotEqual(one, other)
        self.assertNotEqual(House(TWO), House(RICH))
        for value in ODD_VALUES:
            self.assertFalse(House(TWO) == value)
        # Books that became the same are not the first ones.
        grown = House(TWO)
        grown.learn("c", "last")
        there = House(Book(LOOPS, PATTERNS, {"a": "sum", "b": "many", "c": "last"}))
        self.assertEqual(grown.book, there.book)
        self.assertNotEqual(grown, there)


class DrawnDeedsTest(unittest.TestCase):
    def check_same(self, house, plain):
        book, _, rows, keep = plain.state()
        self.assertEqual(house.book, book)
        self.assertEqual(house.rows, rows)
        self.assertEqual(house.keep, keep or [])
        self.assertEqual(house.numbers, plain.numbers())
        self.assertEqual(house.log, plain.deeds)
        self.assertEqual(len(house), len(rows))
        answered = house.answered()
        self.assertEqual(answered, plain.answered())
        self.assertEqual(list(answered), sorted(answered))

    def check_asked(self, chance, house, plain):
        book, past, rows, keep = plain.state()
        expression = random_expression(chance, book, 5, 3)
        if plain.is_told(expression):
            self.assertEqual(house.tell(expression), plain.answer(expression))
        else:
            with self.assertRaises(NotKnown):
                house.tell(expression)
        known = house.knows(expression)
        self.assertIs(known, True if keep is None else knows(book, keep, expression, rows))
        if keep is None:
            self.assertEqual(house.tell(expression), plain_answer(book, expression, past + rows))

    def test_against_all_rows(self):
        chance = random.Random(120)
        refused, done = set(), set()
        for _ in range(60):
            kinds = chance.choice([("in",), ("in", "out")])
            book = chance.choice([TWO, RICH, LASTS, FLAT, NOTHING, LARGE] + [
                random_questions(chance, random_book(chance, kinds, (0, 1)), 4, 3, 6)] * 3)
            house, plain = House(book), PlainHouse(book)
            for _ in range(14):
                if chance.random() < 0.15 and plain.deeds:
                    house.undo()
                    plain.deeds.pop()
                    done.add("undo")
                else:
                    deed = random_deed(chance, plain)
                    before = house.log
                    try:
                        do(house, deed)
                    except StillError as wrong:
                        refused.add((deed[0], type(wrong).__name__))
                        self.assertEqual(house.log, before)
                    else:
                        done.add(deed[0])
                        plain.deeds.append(deed)
                self.check_same(house, plain)
                self.check_asked(chance, house, plain)
            # All taken back, deed by deed.
            while plain.deeds:
                house.undo()
                plain.deeds.pop()
                self.check_same(house, plain)
            self.assertEqual(house, House(book))
        self.assertEqual(done, {"put", "strike", "mend", "move", "fold", "learn", "drop", "undo"})
        self.assertTrue({("fold", "NotKnown"), ("learn", "TooMany"), ("drop", "NotNow")} <= refused)


if __name__ == "__main__":
    unittest.main()
