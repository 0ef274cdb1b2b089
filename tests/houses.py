"""Houses reckoned plainly, with all rows that ever came, and deeds made at random."""

from stillknown.books import Book
from stillknown.errors import NotKnown
from stillknown.known import tell
from tests.plain import plain_answer, random_expression, random_rows


class PlainHouse:
    """A house that throws nothing away: it does all its deeds from the beginning on."""

    def __init__(self, book):
        self.first = book
        self.deeds = []

    def state(self):
        book, past, rows, keep = self.first, [], [], None
        for word, *items in self.deeds:
            if word == "put":
                rows = rows[:items[0]] + [items[1]] + rows[items[0]:]
            elif word == "strike":
                rows = rows[:items[0]] + rows[items[0] + 1:]
            elif word == "mend":
                rows = rows[:items[0]] + [(rows[items[0]][0], items[1])] + rows[items[0] + 1:]
            elif word == "move":
                left = rows[:items[0]] + rows[items[0] + 1:]
                rows = left[:items[1]] + [rows[items[0]]] + left[items[1]:]
            elif word == "fold":
                past, rows, keep = past + rows, [], [(name, list(behind)) for name, behind in items[0]]
            elif word == "learn":
                book = Book(book.loops, book.patterns, {**book.questions, items[0]: items[1]})
            elif word == "drop":
                book = Book(book.loops, book.patterns, {name: question for name, question in book.questions.items()
                                                        if name != items[0]})
        return book, past, rows, keep

    def answer(self, expression):
        book, past, rows, _ = self.state()
        return plain_answer(book, expression, past + rows)

    def numbers(self):
        book, past, _, keep = self.state()
        return tuple(plain_answer(book, book.questions[name], past + list(behind)) for name, behind in keep or [])

    def is_told(self, expression):
        book, _, rows, keep = self.state()
        if keep is None:
            return True
        try:
            tell(book, keep, self.numbers(), expression, rows)
        except NotKnown:
            return False
        return True

    def answered(self):
        questions = self.state()[0].questions
        return {name: self.answer(questions[name]) for name in questions if self.is_told(questions[name])}


def random_deed(chance, plain, size=9):
    """A deed made at random that a house may do, or refuse for what it does not know or has too much of."""
    book, _, rows, keep = plain.state()
    word = chance.choice(["put"] * 5 + ["strike", "mend", "mend", "move", "fold", "learn", "drop"])
    row = (chance.choice(book.kinds), chance.randint(-size, size))
    if word == "put" or (word in ("strike", "mend", "move") and not rows):
        return "put", chance.randint(0, len(rows)), row
    if word == "strike":
        return word, chance.randrange(len(rows))
    if word == "mend":
        return word, chance.randrange(len(rows)), row[1]
    if word == "move":
        return word, chance.randrange(len(rows)), chance.randrange(len(rows))
    if word == "fold":
        pairs = [(chance.choice(book.names), random_rows(chance, book.kinds, 2)) for _ in range(chance.randint(0, 3))]
        return word, pairs + [(name, []) for name in chance.sample(book.names, chance.randint(0, len(book.names)))]
    if word == "learn":
        return word, chance.choice("pqrs"), random_expression(chance, book, 4, 3)
    return word, chance.choice(book.names)


def do(house, deed):
    """Let a house do a deed."""
    return getattr(house, deed[0])(*deed[1:])
