"""Point 123: a desk."""

import random
import unittest

from stillknown.desk import Desk
from stillknown.errors import BadText, StillError
from stillknown.live import House
from stillknown.texts import book_text, words_of
from tests.books import FLAT, KINDS, LARGE, LASTS, RICH, TWO
from tests.houses import PlainHouse, do, random_deed
from tests.plain import ODD_VALUES, random_book, random_expression, random_questions

DIGITS = "1" * 30


def line_of(book, deed):
    """The line of a deed."""
    word, *items = deed
    if word == "put":
        return f"put {items[0]} {items[1][0]} {items[1][1]}"
    if word == "fold":
        return "fold " + (" ".join(name for name, _ in items[0]) or "-")
    if word == "learn":
        return f"learn {items[0]} {words_of(book, items[1])}"
    return " ".join([word, *map(str, items)])


class DeskTest(unittest.TestCase):
    def says(self, desk, *pairs):
        for line, answer in pairs:
            self.assertEqual(desk.say(line), answer, line)

    def test_known(self):
        self.says(
            Desk(text=book_text(RICH)), ("answers", "a 0 b 0"), ("open", "0"), ("numbers", "-"), ("put 0 in 3", "ok"),
            ("put 1 out 12", "ok"), ("put 0 in -7", "ok"), ("open", "3"), ("answers", "a -33 b -16"), ("ask =sum", "-16"),
            ("ask cuts =many =sum", "-33"), ("mend 2 0", "ok"), ("move 0 2", "ok"), ("ask =last", "-7"), ("strike 2", "ok"),
            ("ask times -3 =sum", "-9"), ("fold b a b", "ok"), ("numbers", "3 0 3"), ("open", "0"), ("answers", "a 0 b 3"),
            ("known =sum", "yes"), ("known =many", "no"), ("ask =many", "error notknown"), ("put 0 out 1", "ok"),
            ("answers", "b 2"), ("drop a", "error notnow"), ("undo", "ok"), ("fold a", "ok"), ("answers", "a 0"),
            ("fold b", "error notknown"), ("learn c =last", "ok"), ("learn c =last", "error badname"), ("drop b", "ok"),
            ("drop b", "error noquestion"), ("fold -", "ok"), ("answers", "-"), ("numbers", "-"), ("known times 0 =sum", "yes"),
            ("ask times 0 =sum", "0"))

    def test_text(self):
        for book in (TWO, LARGE, FLAT):
            desk = Desk(book_text(book))
            self.assertEqual(desk.say("text"), "; ".join(book_text(book).split("\n")[:-1]))
        desk = Desk(book_text(TWO))
        desk.say("learn c without in =last")
        desk.say("drop a")
        self.assertTrue(desk.say("text").endswith("; question b =many; question c without in =last"))
        for value in (*ODD_VALUES, book_text(TWO)[:-1], "loop a\nstart"):
            with self.assertRaises(BadText):
                Desk(value)
        with self.assertRaises(BadText) as caught:
            Desk(text="loop a\nstart")
        self.assertEqual(caught.exception.at, 1)

    def test_errors(self):
        desk = Desk(book_text(TWO))
        self.says(
            desk, ("undo", "error nothingdone"), ("put 1 in 3", "error noplace"), ("put 0 up 3", "error badrow"),
            ("strike 0", "error noplace"), ("mend 0 1", "error noplace"), ("move 0 0", "error noplace"),
            (f"put {DIGITS} in 3", "error noplace"), ("fold z", "error badkeep"), ("fold " + " ".join("a" * 13), "error badkeep"),
            ("learn a =sum", "error badname"), ("learn c =zz", "error badexpression"), ("learn c times 10 =sum", "error badexpression"),
            ("learn c plus plus =sum =sum =many", "error toomany"), ("learn c both =sum plus =sum =many", "error toomany"),
            ("ask =a", "error badexpression"), ("ask only zz =sum", "error badexpression"),
            ("ask without up =sum", "error badexpression"), (f"ask times {DIGITS} =sum", "error badexpression"),
            (f"ask times -{DIGITS} =sum", "error badexpression"), ("known =zz", "error badexpression"),
            ("ask turned turned turned turned turned =sum", "error badexpression"), ("ask both =sum plus =sum =many", "error toomany"),
            ("ask " + "turned " * 3000 + "=sum", "error badexpression"), ("drop c", "error noquestion"), ("drop a", "ok"),
            ("drop b", "error notnow"), ("undo", "ok"), ("answers", "a 0 b 0"), ("open", "0"))
        for number in range(40):
            self.assertEqual(desk.say(f"put 0 in {number}"), "ok")
        self.says(desk, ("put 0 in 1", "error toomany"), ("answers", "a 780 b 40"), ("put 41 in 1", "error noplace"))

    def test_what(self):
        desk = Desk(book_text(TWO))
        desk.say("put 0 in 5")
        for value in (*ODD_VALUES, b"undo", "undo ", " undo", "undo\n", "Undo", "undo 1", "open 1", "answers -", "numbers a", "text a",
                      "put 0  in 3", "put 0 in  3", "put  0 in 3", "put 0 in 3 ", "put 0 in", "put 0 in 3 4", "put +0 in 3",
                      "put -1 in 3", "put -0 in 3", "put 00 in 3", "put 01 in 3", "put 0 in 03", "put 0 in +3", "put 0 in -0",
                      "put 0 in 3.0", "put 0 in 1_0", "put 0 in 1e1", "put 0 in --1", "put 0 in -", "put a in 3", "put 0 t 3",
                      "put 0 in" + DIGITS, "put 0 in 1" + DIGITS, "put 0 in -1" + DIGITS, f"put 1{DIGITS} in 3", "put 0 IN 3", "put 0 toolong 3",
                      "put 0 in 0x1", "put", "strike", "strike -1", "strike 0 0", "strike x", "mend 0", "mend 0 a", "mend -0 1", "move 0",
                      "move 0 -0", "move 0 0 0", "drop", "drop A", "drop t", "drop a b", "fold", "fold ", "fold - a", "fold a -", "fold a  b",
                      "fold t", "fold --", "fold a ", "fold A", "learn", "learn c", "learn c ", "learn t =sum", "learn C =sum", "learn c sum",
                      "learn c =sum =sum", "learn c plus =sum", "learn =sum", "ask", "ask ", "ask sum", "ask = sum", "ask =", "ask =t",
                      "ask =toolong", "ask =Sum", "ask times 1", "ask times =sum", "ask times 01 =sum", "ask times 1 1 =sum", "ask plus =sum",
                      "ask plus =sum =sum =sum", "ask star", "ask only =sum", "ask only 1 =sum", "ask without =in =sum", "ask only even",
                      f"ask times 1{DIGITS} =sum", "ask  =sum", "ask =sum ", "known", "known yes", "known =sum =sum", "keep", "rows", "log",
                      "tell =sum", "copy", "tried", "answered", "-", "=sum", "undo\tnow", "put 0 in 3\n"):
            self.assertEqual(desk.say(value), "what", value)
        self.says(desk, ("answers", "a 5 b 1"), ("open", "1"), ("undo", "ok"), ("undo", "error nothingdone"))
        self.assertEqual(desk.say(line="open"), "0")

    def test_long_numbers(self):
        desk = Desk(book_text(TWO))
        self.says(desk, (f"put 0 in {DIGITS}", "ok"), (f"put 0 out -{DIGITS}", "ok"), ("ask =sum", "2" * 30),
                  ("ask =square", str(2 * int(DIGITS) ** 2)), (f"mend 0 {DIGITS}", "ok"), ("ask =sum", "0"))
        double = Desk("loop d\nstart d 1\non in\nd = 1*d*t\nanswer 1*d\nquestion a =d\n")
        for at in range(40):
            self.assertEqual(double.say(f"put {at} in {10 ** 29}"), "ok")
        self.says(double, ("answers", "a 1" + "0" * 1160))

    def test_beside_a_house(self):
        chance = random.Random(123)
        seen = set()
        for _ in range(60):
            book = chance.choice([TWO, RICH, LASTS, random_questions(chance, random_book(chance, KINDS, (0, 1)), 4, 3, 6)])
            desk, house, plain = Desk(book_text(book)), House(book), PlainHouse(book)
            for _ in range(15):
                deed = ("undo",) if chance.random() < 0.15 else random_deed(chance, plain)
                if deed[0] == "fold":
                    # A line of a desk tells no rows behind the folded ones.
                    deed = "fold", [(name, []) for name, _ in deed[1]]
                line = line_of(house.book, deed)
                try:
                    do(house, deed)
                    answer = "ok"
                    if deed == ("undo",):
                        plain.deeds.pop()
                    else:
                        plain.deeds.append(deed)
                except StillError as wrong:
                    answer = "error " + type(wrong).__name__.lower()
                seen.add(answer)
                expression = random_expression(chance, book, 5, 3)
                try:
                    told = str(house.tell(expression))
                except StillError as wrong:
                    told = "error " + type(wrong).__name__.lower()
                words = words_of(book, expression)
                self.says(
                    desk, (line, answer), ("open", str(len(house))), ("numbers", " ".join(map(str, house.numbers)) or "-"),
                    ("answers", " ".join(f"{name} {answer}" for name, answer in house.answered().items()) or "-"),
                    (f"ask {words}", told), (f"known {words}", "yes" if house.knows(expression) else "no"),
                    ("text", "; ".join(book_text(house.book).split("\n")[:-1])))
        self.assertTrue({"ok", "error notknown"} <= seen)


if __name__ == "__main__":
    unittest.main()
