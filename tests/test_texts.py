"""Point 122: books as texts."""

import random
import re
import unittest

from stillknown.books import Book
from stillknown.errors import BadBook, BadExpression, BadText, StillError
from stillknown.loops import Loop
from stillknown.patterns import Pattern
from stillknown.texts import book_text, read_book, words_of
from tests.books import FLAT, LARGE, LASTS, NOTHING, RICH, TWO
from tests.plain import ODD_VALUES, random_book, random_expression, random_questions

TEXT = """loop s
start x -3
start y 0
on in
x = 1*t + 1*x
y = 2 + -9*t2 + 1*x + 1*x*t + 3*y*t2
on out
x = 0
y = -1*y
answer -2 + 1*y
loop w
start a 99
on in
a = 1*a
on out
a = 0
answer 0
pattern p
on in 1 0
on out 1 1
good 0 1
pattern q
on in 0
on out 0
good
question a times -9 =s
question b only p without in =w
"""
BOOK = Book({
    "s": Loop({"x": -3, "y": 0}, {"in": {"x": (("", 1, 1), ("x", 0, 1)), "y": (
        ("", 0, 2), ("", 2, -9), ("x", 0, 1), ("x", 1, 1), ("y", 2, 3))}, "out": {"x": (), "y": (("y", 0, -1),)}},
        (("", 0, -2), ("y", 0, 1))),
    "w": Loop({"a": 99}, {"in": {"a": (("a", 0, 1),)}, "out": {"a": ()}}, ())},
    {"p": Pattern({"in": [1, 0], "out": [1, 1]}, [1, 0]), "q": Pattern({"in": [0], "out": [0]}, [])},
    {"a": ("times", -9, "s"), "b": ("only", "p", ("without", "in", "w"))})


# Whether lines can stand at the beginning of a text: they are read without asking much, what is missing is
# put behind them, and the text of the book that comes of it must begin with just these lines.

TERM = re.compile(r"(-?\d{1,3})((?:\*[a-z]+)?)(|\*t|\*t2)")


def loose_sum(text):
    """The sum that is written so, whether it is one or not."""
    if text == "0":
        return ()
    terms = []
    for part in text.split(" + "):
        found = TERM.fullmatch(part)
        if found is None:
            raise KeyError(text)
        number, name, power = found.groups()
        if name == "*t":
            name, power = "", "*t"
        terms.append((name[1:], len(power) - 1 if power else 0, int(number)))
    return tuple(terms)


def loose_expression(words):
    """An expression at the front of a list of words, which are taken from it."""
    word = words.pop(0)
    if word.startswith("="):
        return word[1:]
    if word in ("times", "without", "only"):
        told = words.pop(0)
        return word, int(told) if word == "times" else told, loose_expression(words)
    if word in ("star", "turned"):
        return word, loose_expression(words)
    if word in ("plus", "both", "cuts"):
        return word, loose_expression(words), loose_expression(words)
    raise KeyError(word)


def loose_parts(lines):
    """Loops, patterns and questions as lists of what stands in the lines."""
    loops, patterns, questions = [], [], []
    for line in lines:
        word, *rest = line.split(" ")
        if " = " in line:
            name, text = line.split(" = ", 1)
            loops[-1][2][-1][1].append((name, loose_sum(text)))
        elif word == "loop":
            loops.append((rest[0], [], [], []))
        elif word == "start":
            loops[-1][1].append((rest[0], int(rest[1])))
        elif word == "on" and not patterns:
            loops[-1][2].append((rest[0], []))
        elif word == "answer":
            loops[-1][3].append(loose_sum(line[7:]))
        elif word == "pattern":
            patterns.append((rest[0], [], []))
        elif word == "on":
            patterns[-1][1].append((rest[0], [int(state) for state in rest[1:]]))
        elif word == "good":
            patterns[-1][2].append([int(state) for state in rest])
        elif word == "question":
            questions.append((rest[0], loose_expression(rest[1:])))
        else:
            raise KeyError(line)
    return loops, patterns, questions


def made_whole(lines):
    """A book of the lines, with whatever is missing put behind them."""
    loops, patterns, questions = loose_parts(lines)
    made, kinds = {}, []
    for name, start, steps, last in loops:
        start = dict(start or [("a", 0)])
        told = dict((kind, dict(sums)) for kind, sums in steps)
        for kind in kinds or list(told) or ["k"]:
            told.setdefault(kind, {})
        kinds = kinds or list(told)
        for sums in told.values():
            for variable in start:
                sums.setdefault(variable, ())
        made[name] = Loop(start, told, (last or [()])[0])
    machines = {}
    for name, steps, good in patterns:
        told = dict(steps)
        many = len(steps[0][1]) if steps else 1
        for kind in kinds:
            told.setdefault(kind, [0] * many)
        machines[name] = Pattern(told, (good or [[]])[0])
    return Book(made, machines, dict(questions or [("a", min(made))]))


def can_stand(lines):
    """Whether some text begins with these lines."""
    try:
        return book_text(made_whole(lines)).startswith("".join(line + "\n" for line in lines))
    except (StillError, LookupError, ValueError):
        return False


def plain_wrong_line(text):
    """The number of the first line that cannot stand; None if the text is one of a book."""
    *lines, rest = text.split("\n")
    for at in range(len(lines)):
        if not can_stand(lines[:at + 1]):
            return at
    whole = rest == "" and lines and lines[-1].startswith("question ")
    return None if whole else len(lines)


class TextTest(unittest.TestCase):
    def check(self, text, at):
        with self.assertRaises(BadText) as caught:
            read_book(text)
        self.assertEqual(caught.exception.at, at, text)

    def test_known(self):
        self.assertEqual(book_text(BOOK), TEXT)
        self.assertEqual(read_book(text=TEXT), BOOK)
        self.assertEqual(book_text(book=read_book(TEXT)), TEXT)
        plain = "loop n\nstart n 0\non k\nn = 1 + 1*n\nanswer 1*n\nquestion a =n\n"
        self.assertEqual(book_text(read_book(plain)), plain)

    def test_words(self):
        self.assertEqual(words_of(TWO, "sum"), "=sum")
        self.assertEqual(words_of(TWO, ("plus", ("times", -3, "sum"), ("star", ("only", "even", ("turned", "many"))))),
                         "plus times -3 =sum star only even turned =many")
        self.assertEqual(words_of(expression=("cuts", "sum", ("without", "in", "sum")), book=TWO), "cuts =sum without in =sum")
        # No bound is asked.
        large = ("both", ("both", "sum", "many"), ("plus", "sum", "many"))
        self.assertEqual(words_of(TWO, large), "both both =sum =many plus =sum =many")
        for value in ODD_VALUES:
            with self.assertRaises(BadBook) as caught:
                words_of(value, None)
            self.assertIsNone(caught.exception.part)
            with self.assertRaises(BadBook):
                book_text(value)
            with self.assertRaises(BadExpression) as caught:
                words_of(TWO, ("plus", "sum", value))
            self.assertEqual(caught.exception.spot, (2,))

    def test_again(self):
        chance = random.Random(122)
        for book in [TWO, RICH, LASTS, FLAT, NOTHING, LARGE, BOOK]:
            self.assertEqual(read_book(book_text(book)), book)
        for _ in range(80):
            book = random_questions(chance, random_book(chance, chance.choice([("in",), ("in", "out"), ("a", "b", "zz")])), 6, 5)
            text = book_text(book)
            self.assertEqual(read_book(text), book)
            self.assertEqual(book_text(read_book(text)), text)
            expression = random_expression(chance, book, 2, 5)
            asked = Book(book.loops, book.patterns, {"q": expression})
            self.assertEqual(book_text(asked).split("\n")[-2], "question q " + words_of(book, expression))

    def test_bounds(self):
        loops = book_text(TWO).split("question")[0]
        for words in ("plus plus =sum =many =sum", "both star =sum =sum"):
            self.assertEqual(read_book(loops + f"question a {words}\n").bound("a"), 6)
        lines = loops.count("\n")
        for line, at in [("question a both plus =sum =many only even =sum\n", 0), ("question a plus plus =sum =many plus =sum =sum\n", 0),
                         ("question a both star =sum =sum\nquestion b =sum\nquestion c =sum\n", 2),
                         ("question a =sum\nquestion b =sum\nquestion c =sum\nquestion d plus =sum =sum\n", 3),
                         ("question a plus plus =sum =many =sum\nquestion b plus =sum =sum\n", 1)]:
            self.check(loops + line, lines + at)
        self.assertEqual(read_book(loops + "question a both star =sum =sum\nquestion b star =sum\n").bound("b"), 3)
        five = "question a turned turned turned turned =sum\n"
        self.assertEqual(read_book(loops + five).bound("a"), 2)
        self.check(loops + five.replace("a turned", "a turned turned"), lines)
        self.check(loops + "question a " + "turned " * 2000 + "=sum\n", lines)

    def test_wrong_lines(self):
        lines = TEXT.split("\n")[:-1]
        for at, line in [
                (0, "loop"), (0, "loop t"), (0, "loop S"), (0, "loop s "), (0, " loop s"), (0, "loop  s"), (0, "loops s"),
                (0, ""), (0, "pattern p"), (0, "question a =s"), (1, "start x -100"), (1, "start x 100"), (1, "start x 03"),
                (1, "start x -0"), (1, "start x +3"), (1, "start x"), (1, "start x 1 2"), (1, "start x 1.0"), (1, "on in"),
                (1, "start x " + "9" * 3000), (2, "start x 0"), (2, "start a 0"), (3, "on t"), (3, "on in out"), (3, "answer 0"),
                (3, "loop w"), (4, "y = 0"), (4, "x =0"), (4, "x = "), (4, "x =  0"), (4, "x = 1*t + 1*x "), (4, "x = 1*x + 1*t"),
                (4, "x = 1*t + 1*t"), (4, "x = 1*t +1*x"), (4, "x = 0*t"), (4, "x = 10*t"), (4, "x = -10"), (4, "x = 1*t3"),
                (4, "x = 1*t*x"), (4, "x = 1*z"), (4, "x = 1*"), (4, "x = *x"), (4, "x = x"), (4, "x = 01*x"), (4, "x = 1*t0"),
                (4, "x = 0 + 1*t"), (4, "x = 1*x*x"), (4, "x = 1*t1"), (4, "x = 1*x*t*t"), (4, "x = 1*t + "), (5, "on out"),
                (5, "x = 0"), (6, "on in"), (6, "on a"), (6, "y = 0"), (9, "answer 1*t"), (9, "answer 1*x*t"), (9, "answer"),
                (9, "answer 1*a"), (9, "on z z"), (10, "loop a"), (10, "loop s"), (10, "answer 0"), (12, "on out"), (12, "on a"),
                (14, "answer 0"), (14, "on z"), (16, "on z"), (16, "on in"), (17, "loop a"), (17, "patern p"), (18, "on in"),
                (18, "on in 0 1 2 3 4"), (18, "on in 1 2"), (18, "on out 1 0"), (18, "on in -1 0"), (18, "on in 1  0"),
                (18, "on in 01 0"), (19, "on out 1"), (19, "on out 1 1 1"), (19, "on out 1 2"), (19, "good 0"), (19, "on in 1 0"),
                (20, "good 1 0"), (20, "good 0 0"), (20, "good 2"), (20, "good 0 1 "), (20, "good -1"), (20, "on z 0 0"), (20, "good x"),
                (21, "pattern p"), (21, "pattern a"), (21, "loop z"), (25, "question a times -10 =s"), (25, "question a times -9 =z"),
                (25, "question a times -9 s"), (25, "question a =s =s"), (25, "question a"), (25, "question"), (25, "question t =s"),
                (25, "question a only z =s"), (25, "question a without z =s"), (25, "question a times =s"), (25, "question a plus =s"),
                (25, "question a  =s"), (25, "question a =s "), (25, "question a times -09 =s"), (25, "question a maybe =s"),
                (26, "question a =s"), (26, "question A =s"), (26, "pattern z"), (26, "loop z"), (26, "")]:
            with self.subTest(line=line):
                changed = lines[:at] + [line] + lines[at + 1:]
                self.check("\n".join(changed) + "\n", at)
                self.assertEqual(plain_wrong_line("\n".join(changed) + "\n"), at)

    def test_too_many(self):
        three = "on k\n" + "".join(f"{name} = 0\n" for name in "abc") + "answer 0\n"
        start = "".join(f"start {name} 0\n" for name in "abc")
        self.check("loop l\n" + start + "start d 0\n" + three, 4)
        loop = "start a 0\non k\na = 0\nanswer 0\n"
        self.check("".join(f"loop {name}\n{loop}" for name in "abcde"), 20)
        kinds = "".join(f"on {name}\na = 0\n" for name in "klmn")
        self.check("loop l\nstart a 0\n" + kinds + "answer 0\n", 8)
        one = "loop l\n" + loop
        self.check(one + "".join(f"pattern {name}\non k 0\ngood\n" for name in "pqrs"), 5 + 9)
        self.check(one + "".join(f"question {name} =l\n" for name in "abcde"), 5 + 4)
        self.assertEqual(read_book(one + "".join(f"question {name} =l\n" for name in "abcd")).names, tuple("abcd"))

    def test_four_states(self):
        four = "loop l\nstart a 0\non k\na = 0\nanswer 0\npattern p\non k 1 2 3 0\ngood 0 3\nquestion a =l\n"
        self.assertEqual(read_book(four).patterns["p"], Pattern({"k": [1, 2, 3, 0]}, [0, 3]))
        self.check(four.replace("1 2 3 0", "1 2 3 4 0"), 6)
        self.check(four.replace("1 2 3 0", "1 2 3 4"), 6)

    def test_ends(self):
        lines = TEXT.split("\n")[:-1]
        for many in range(len(lines) - 1):
            self.check("".join(line + "\n" for line in lines[:many]), many)
            # The last line is not ended.
            self.check("".join(line + "\n" for line in lines[:many]) + lines[many], many)
            self.check("".join(line + "\n" for line in lines[:many]) + lines[many][:3], many)
        self.check(TEXT[:-1], 26)
        self.check(TEXT + "\n", 27)
        self.check(TEXT + "question", 27)
        self.check(TEXT + "question c =s", 27)
        self.check(TEXT + " ", 27)
        self.assertEqual(read_book("".join(line + "\n" for line in lines[:-1])).names, ("a",))
        for value in ODD_VALUES:
            self.check(value, 0)
        for value in ("\n", "\n\n", " ", "loop", "x" * 4000, "\n" * 4000, " \n" * 2000):
            self.check(value, 0)

    def test_names_that_look_like_words(self):
        loop = Loop({"on": 1, "answer": 2, "start": 3}, {"on": {"on": (("start", 1, 1),), "answer": (), "start": (("on", 0, 1),)}},
                    (("answer", 0, 1),))
        book = Book({"loop": loop, "plus": loop}, {"good": Pattern({"on": [0]}, [0])},
                    {"star": ("only", "good", ("without", "on", "plus"))})
        self.assertEqual(read_book(book_text(book)), book)
        kinds = ("plus", "times")
        loop = Loop({"x": 0}, {kind: {"x": ()} for kind in kinds}, ())
        book = Book({"cuts": loop}, {"star": Pattern({kind: [0] for kind in kinds}, [])},
                    {"q": ("plus", ("without", "plus", "cuts"), ("only", "star", ("without", "times", "cuts")))})
        self.assertEqual(read_book(book_text(book)), book)
        self.assertEqual(words_of(book, book.questions["q"]), "plus without plus =cuts only star without times =cuts")

    def test_changed_texts(self):
        chance = random.Random(1220)
        pool = TEXT.split("\n") + book_text(LARGE).split("\n") + book_text(RICH).split("\n")
        numbers = set()
        for _ in range(25):
            base = random_book(chance, chance.choice([("in",), ("in", "out")]))
            if chance.random() < 0.5:
                base = Book({"one": base.loops["one"]}, {"p": base.patterns["p"]}, {"a": "one"})
            lines = book_text(random_questions(chance, base, 5, 3)).split("\n")[:-1]
            for _ in range(40):
                at = chance.randrange(len(lines))
                way = chance.randrange(6)
                changed = list(lines)
                if way == 0:
                    changed.insert(at, lines[at])
                elif way == 1:
                    changed.pop(at)
                elif way == 2:
                    changed[at] = chance.choice(pool + lines)
                elif way == 3:
                    changed[at:at + 2] = changed[at:at + 2][::-1]
                elif way == 4:
                    spot = chance.randrange(len(lines[at]) + 1)
                    changed[at] = lines[at][:spot] + chance.choice(" 019*-+=abt") + lines[at][spot + chance.randrange(2):]
                else:
                    changed = changed[:at] + ([lines[at][:-1]] if chance.random() < 0.5 else [])
                text = "".join(line + "\n" for line in changed)
                if chance.random() < 0.1:
                    text = text[:-1]
                wrong = plain_wrong_line(text)
                if wrong is None:
                    self.assertEqual(book_text(read_book(text)), text)
                else:
                    numbers.add(wrong)
                    self.check(text, wrong)
        self.assertGreater(len(numbers), 20)


if __name__ == "__main__":
    unittest.main()
