"""Point 2: one history, told by all parts of the program."""

import random
import unittest

from stillknown.checks import answers_of, checks_of, faults, mended, told_back
from stillknown.desk import Desk
from stillknown.errors import TooMany
from stillknown.exchange import least_order, thinned
from stillknown.forms import form_answer
from stillknown.handing import hand_over, handed, joined, told_answers, told_at
from stillknown.journals import first_wrong, journal_of, replayed
from stillknown.known import folded, tell
from stillknown.least import least_form
from stillknown.links import link_paper, over_links
from stillknown.live import House
from stillknown.reading import folded_on, lasting
from stillknown.spaces import are_one, book_size
from stillknown.texts import book_text, read_book
from stillknown.versions import told_questions
from stillknown.whatif import repairs, what_if, worth
from tests.books import FLAT, KINDS, LARGE, LASTS, LOOPS, NOTHING, PATTERNS, RICH, TWO
from tests.graphs import NAMES, random_tree
from tests.plain import plain_answer, random_book, random_questions, random_rows


def many_books(seed, many):
    """Books made at random, behind the common ones."""
    chance = random.Random(seed)
    books = [TWO, RICH, LASTS, FLAT, NOTHING, LARGE]
    while len(books) < many:
        books.append(random_questions(chance, random_book(chance, chance.choice([("in",), KINDS]), (0, 1)), 5, 3))
    return chance, books


class OneHistoryTest(unittest.TestCase):
    def test_all_ways_tell_the_same(self):
        chance, books = many_books(2, 40)
        ways = 0
        for book in books:
            rows = random_rows(chance, book.kinds, 9, 20)
            answers = {name: plain_answer(book, book.questions[name], rows) for name in book.names}
            told = tuple(answers.values())
            self.assertEqual(book.answers(rows), answers)
            # By least forms.
            for name in book.names:
                self.assertEqual(form_answer(book.kinds, least_form(book, book.questions[name]), rows), answers[name])
            # By a house that is told row by row, and by a desk beside it.
            house, desk = House(book), Desk(book_text(book))
            for at, (kind, number) in enumerate(rows):
                house.put(at, (kind, number))
                self.assertEqual(desk.say(f"put {at} {kind} {number}"), "ok")
            self.assertEqual(house.answered(), answers)
            self.assertEqual(desk.say("answers"), " ".join(f"{name} {answers[name]}" for name in answers))
            self.check_pieces(chance, book, rows, told)
            ways += self.check_links(chance, book, rows, told)
        self.assertGreater(ways, 10)

    def check_pieces(self, chance, book, rows, told):
        """By a hand-over of pieces, one of whom fell silent, and one of whom was wrong."""
        if handed(book) > 12:
            with self.assertRaises(TooMany):
                hand_over(book)
            return
        paper = hand_over(book)
        cuts = sorted(chance.randint(0, len(rows)) for _ in range(2))
        pieces = [rows[:cuts[0]], rows[cuts[0]:cuts[1]], rows[cuts[1]:]]
        numbers = [told_at(book, paper[0], piece) for piece in pieces]
        self.assertEqual(told_answers(paper, joined(paper, joined(paper, numbers[0], numbers[1]), numbers[2])), told)
        tuples = dict(zip((2, 5, 9), numbers))
        self.assertEqual(tuple(answers_of(book, tuples).values()), told)
        checks = checks_of(tuples, 2)
        self.assertEqual(told_back({**tuples, 5: None, 9: None}, checks), tuples)
        if numbers[0]:
            wrong = {**tuples, 5: tuple(number + 7 for number in numbers[1])}
            self.assertEqual(faults(wrong, checks), (1, [((5,), ())]))
            self.assertEqual(mended(wrong, checks), tuples)

    def check_links(self, chance, book, rows, told):
        """Over links, with every worker as the root."""
        if book_size(book) > 9:
            return 0
        workers = chance.sample(NAMES, 3)
        layout = (*workers, workers[0])
        links = random_tree(chance, workers)
        cuts = [0, *sorted(chance.randint(0, len(rows)) for _ in range(3)), len(rows)]
        filling = tuple(rows[begin:end] for begin, end in zip(cuts, cuts[1:]))
        for root in workers:
            paper = link_paper(book, layout, links, root)
            self.assertEqual(over_links(book, layout, links, root, paper, filling)[1], told)
        return 1

    def test_folded_histories(self):
        chance, books = many_books(3, 30)
        for book in books:
            house = House(book)
            past = []
            keep = [(name, []) for name in book.names]
            keep = keep + lasting(book, keep)
            if len(keep) > 12 or any(len(behind) > 12 for _, behind in keep):
                continue
            for _ in range(3):
                rows = random_rows(chance, book.kinds, 5, 9)
                numbers = folded(book, keep, past)
                past += rows
                for row in rows:
                    house.put(len(house), row)
                house.fold(keep)
                # A keep that lasts is folded on for ever.
                self.assertEqual(house.numbers, folded(book, keep, past))
                self.assertEqual(folded_on(book, keep, numbers, rows), house.numbers)
                self.assertEqual(house.answered(), book.answers(past))
                for name in book.names:
                    self.assertEqual(tell(book, keep, house.numbers, book.questions[name], []), house.answered()[name])
            self.assertIsNone(first_wrong(book, journal_of(house)))
            self.assertEqual(replayed(book, journal_of(house)), house)
            self.assertEqual(read_book(book_text(house.book)), book)

    def test_what_may_be_done_with_rows(self):
        chance, books = many_books(4, 30)
        for book in books:
            rows = random_rows(chance, book.kinds, 6, 2)
            answers = book.answers(rows)
            house = House(book)
            for row in least_order(book, rows):
                house.put(len(house), row)
            self.assertEqual(house.answered(), answers)
            kept = [rows[at] for at in thinned(book, rows)]
            self.assertEqual(book.answers(kept), answers)
            self.assertTrue(are_one(book, [(1, rows)], [(1, kept)]))
            if rows:
                place = chance.randrange(len(rows))
                changed = list(rows)
                changed[place] = (rows[place][0], rows[place][1] + 5)
                pairs = repairs(book, changed, answers)
                self.assertTrue((place, rows[place][1]) in pairs or (place, None) in pairs)
                for name in book.names:
                    polynomial = what_if(book, name, changed, [place])
                    self.assertEqual(worth(polynomial, (rows[place][1],)), answers[name])

    def test_learned_questions_are_told_as_versions_are(self):
        old = House(RICH)
        new = old.copy()
        new.learn("c", ("times", 3, "sum"))
        self.assertEqual(told_questions(old.book, new.book), ["a", "b", "c"])
        new.put(0, ("in", 2))
        new.fold([("a", []), ("b", [])])
        self.assertEqual(new.answered(), {"a": 0, "b": 2, "c": 6})
        self.assertEqual(book_text(new.book), book_text(read_book(book_text(new.book))))
        self.assertEqual(set(new.book.loops), set(LOOPS))
        self.assertEqual(set(new.book.patterns), set(PATTERNS))


if __name__ == "__main__":
    unittest.main()
