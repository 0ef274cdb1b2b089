"""Point 121: journals."""

import copy
import random
import unittest

from stillknown.errors import BadBook, BadJournal, StillError
from stillknown.journals import first_wrong, journal_of, replayed
from stillknown.live import House
from tests.books import LASTS, RICH, TWO
from tests.houses import PlainHouse, do, random_deed
from tests.plain import ODD_VALUES, random_book, random_questions

DEEDS = [("put", 0, ("in", 1)), ("put", 1, ("out", 4)), ("move", 1, 0), ("mend", 1, 3), ("learn", "c", "last"),
         ("fold", [("b", []), ("c", [("out", 2)])]), ("put", 0, ("in", 8)), ("drop", "a"), ("strike", 0)]


def house_with(book, deeds):
    """A house that did some deeds."""
    house = House(book)
    for deed in deeds:
        do(house, deed)
    return house


JOURNAL = journal_of(house_with(RICH, DEEDS))


class JournalTest(unittest.TestCase):
    def wrong(self, value, at, book=RICH):
        self.assertEqual(first_wrong(book, value), at)
        if at is None:
            self.assertIsInstance(replayed(book, value), House)
            return
        with self.assertRaises(BadJournal) as caught:
            replayed(book, value)
        self.assertEqual(caught.exception.at, at)

    def test_known(self):
        house = House(TWO)
        self.assertEqual(journal_of(house=house), [])
        house.put(0, ("in", 5))
        house.fold([("a", [])])
        self.assertEqual(journal_of(house), [(("put", 0, ("in", 5)), {"a": 5, "b": 1}), (("fold", [("a", [])]), {"a": 5})])
        self.assertIsNone(first_wrong(journal=journal_of(house), book=TWO))
        self.assertEqual(replayed(journal=journal_of(house), book=TWO), house)
        self.assertEqual([deed for deed, _ in JOURNAL], DEEDS)

    def test_undo(self):
        house = house_with(RICH, DEEDS)
        longer = list(JOURNAL)
        for _ in range(3):
            house.undo()
            longer.append((("undo",), house.answered()))
        self.wrong(longer, None)
        self.assertEqual(replayed(RICH, longer), house)
        self.assertEqual(journal_of(replayed(RICH, longer)), JOURNAL[:-3])
        longer[-1] = (("undo",), {})
        self.wrong(longer, len(longer) - 1)
        self.wrong([(("undo",), {"a": 0, "b": 0})], 0)
        self.wrong([(("put", 0, ("in", 1)), {"a": 0, "b": 1}), (("undo",), {"b": 0, "a": 0}), (("undo",), {"b": 0, "a": 0})], 2)

    def test_other_forms(self):
        tuples = tuple(JOURNAL)
        self.wrong(tuples, None)
        other = list(JOURNAL)
        other[5] = (("fold", (("b", ()), ("c", (("out", 2),)))), dict(reversed(list(JOURNAL[5][1].items()))))
        self.wrong(other, None)
        self.assertEqual(replayed(RICH, other), house_with(RICH, DEEDS))
        self.wrong((), None)
        self.wrong([], None)

    def test_any_value(self):
        for value in ODD_VALUES:
            if isinstance(value, (list, tuple)):
                self.wrong(value, None if len(value) == 0 else 0)
            else:
                self.wrong(value, 0)
            for at in range(len(JOURNAL)):
                changed = list(JOURNAL)
                for item in (value, (value, JOURNAL[at][1]), (JOURNAL[at][0], value), (JOURNAL[at][0], JOURNAL[at][1], value)):
                    changed[at] = item
                    self.wrong(changed, at)
        for value in ODD_VALUES:
            with self.assertRaises(BadBook) as caught:
                first_wrong(value, None)
            self.assertIsNone(caught.exception.part)
            with self.assertRaises(BadBook):
                replayed(value, None)

    def test_wrong_deeds(self):
        answers = {"a": 0, "b": 0}
        for deed in [("put", 0), ("put", 0, ["in", 1]), ("put", 1, ("in", 1)), ("put", False, ("in", 1)), ("put", 0, ("in", 1), 0),
                     ["put", 0, ("in", 1)], ("strike", 0), ("mend", 0, 1), ("move", 0, 0), ("fold",), ("fold", None),
                     ("fold", [("z", [])]), ("fold", [["a", []]]), ("learn", "a", "sum"), ("learn", "c"), ("drop", "z"),
                     ("undo",), ("undo", 1), ("answered",), ("copy",), (), ("tell", "sum"), "undo", (None,), (("put",), 0, 0),
                     ("book", 1), ("__init__", RICH), (["put"], 0, 1)]:
            self.wrong([(deed, answers)], 0)
            self.wrong([(("put", 0, ("in", 0)), {"a": 0, "b": 0}), (("undo",), answers), (deed, answers)], 2)
        for number in (True, None, "1", [1], 2):
            self.wrong([(("put", 0, ("in", 1)), {"a": 0, "b": number})], 0)
        for answered in [{"a": 0}, {"a": 0, "b": 1, "c": 0}, {"a": False, "b": 1}, {"b": 1, "c": 0}, [("a", 0), ("b", 1)], {}]:
            self.wrong([(("put", 0, ("in", 1)), answered)], 0)
        # One dict otherwise, far behind.
        for at in range(len(JOURNAL)):
            for name in JOURNAL[at][1]:
                changed = copy.deepcopy(JOURNAL)
                changed[at][1][name] += 1
                self.wrong(changed, at)
                del changed[at][1][name]
                self.wrong(changed, at)

    def test_equal_logs_of_unlike_books(self):
        first = [(("put", 0, ("in", 1)), House(RICH).answered())]
        self.assertEqual(house_with(RICH, [DEEDS[0]]).log, house_with(TWO, [DEEDS[0]]).log)
        self.wrong([(DEEDS[0], {"a": 0, "b": 1})], None, RICH)
        self.wrong([(DEEDS[0], {"a": 0, "b": 1})], 0, TWO)
        self.wrong(first, 0)

    def test_against_houses(self):
        chance = random.Random(121)
        for _ in range(25):
            book = chance.choice([TWO, RICH, LASTS, random_questions(chance, random_book(chance, ("in",), (0, 1)), 4, 3, 6)])
            house, plain, journal = House(book), PlainHouse(book), []
            for _ in range(12):
                if plain.deeds and chance.random() < 0.2:
                    house.undo()
                    plain.deeds.pop()
                    journal.append((("undo",), plain.answered()))
                    continue
                deed = random_deed(chance, plain)
                try:
                    do(house, deed)
                except StillError:
                    self.wrong(journal + [(deed, plain.answered())], len(journal), book)
                    continue
                plain.deeds.append(deed)
                journal.append((deed, plain.answered()))
            self.wrong(journal, None, book)
            self.assertEqual(replayed(book, journal), house)
            own = journal_of(house)
            self.assertEqual([deed for deed, _ in own], plain.deeds)
            self.assertEqual(replayed(book, own), house)
            self.assertEqual(journal_of(replayed(book, journal)), own)

    def test_nothing_is_shared(self):
        house = house_with(RICH, DEEDS)
        before = house.log
        journal = journal_of(house)
        journal[5][0][1][1][1].append(("in", 3))
        journal[5][1].clear()
        journal.clear()
        self.assertEqual(house.log, before)
        self.assertEqual(journal_of(house), JOURNAL)
        passed = copy.deepcopy(JOURNAL)
        again = replayed(RICH, passed)
        self.assertEqual(passed, JOURNAL)
        passed[5][0][1].clear()
        self.assertEqual(again.log, before)
        again.undo()
        self.assertEqual(house.log, before)


if __name__ == "__main__":
    unittest.main()
