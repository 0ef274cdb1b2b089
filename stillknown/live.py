"""A live house: rows that come, are changed, folded and taken back, and questions that change."""

from stillknown.asked import check_book, check_name, check_question
from stillknown.books import Book
from stillknown.errors import BadName, BadNumber, BadRow, NoPlace, NotKnown, NothingDone, NotNow, TooMany
from stillknown.known import knows
from stillknown.moments import Moment, listed_keep, moments_to, shown_deed
from stillknown.pasts import check_keep
from stillknown.values import is_name, is_number, is_row, is_within

MOST_ROWS = 40
MOST_QUESTIONS = 4


class Block:
    """A block that stands: the moment when it began, and the block around it."""

    def __init__(self, began, outer):
        self.began = began
        self.outer = outer


class House:
    """A house with a book, open rows, and a past of which only a keep and its numbers are left."""

    def __init__(self, book):
        check_book(book)
        self._first = book
        self._now = Moment(book, ())
        self._block = None

    def __eq__(self, other):
        if not isinstance(other, House):
            return False
        return self._first == other._first and self.log == other.log

    def __len__(self):
        return len(self._now.opened)

    def __enter__(self):
        self._block = Block(self._now, self._block)
        return self

    def __exit__(self, kind, value, trace):
        if kind is not None:
            self._now = self._block.began
        self._block = self._block.outer

    @property
    def book(self):
        return self._now.asked

    @property
    def rows(self):
        return list(self._now.opened)

    @property
    def keep(self):
        return listed_keep(self._now.kept)

    @property
    def numbers(self):
        return self._now.worths

    @property
    def log(self):
        return [shown_deed(moment.deed) for moment in moments_to(self._now)]

    def put(self, at, row):
        """A row comes in among the open ones."""
        rows = self.rows
        if not is_within(at, 0, len(rows)):
            raise NoPlace(at)
        if not is_row(self.book.kinds, row):
            raise BadRow("no row of a kind of the book")
        if len(rows) >= MOST_ROWS:
            raise TooMany(MOST_ROWS)
        rows.insert(at, row)
        self._now = self._now.with_rows(("put", at, row), rows)

    def strike(self, at):
        """An open row goes."""
        rows = self.rows
        self._check_place(at)
        rows.pop(at)
        self._now = self._now.with_rows(("strike", at), rows)

    def mend(self, at, number):
        """An open row gets another number."""
        rows = self.rows
        self._check_place(at)
        if not is_number(number):
            raise BadNumber("number")
        rows[at] = (rows[at][0], number)
        self._now = self._now.with_rows(("mend", at, number), rows)

    def move(self, at, to):
        """An open row is taken out and comes in at another place."""
        rows = self.rows
        self._check_place(at)
        self._check_place(to)
        rows.insert(to, rows.pop(at))
        self._now = self._now.with_rows(("move", at, to), rows)

    def fold(self, keep):
        """All open rows are thrown away, and of the whole only the numbers of a keep stay."""
        check_keep(self.book, keep)
        self._now = self._now.with_fold(tuple([(name, tuple(behind)) for name, behind in keep]))

    def learn(self, name, expression):
        """The book gets one question more."""
        book = self.book
        if not is_name(name) or name in book.names:
            raise BadName("no name, or that of a question")
        # What is no expression is refused ahead of what there is too much of.
        book.bound_of(expression)
        if len(book.names) >= MOST_QUESTIONS:
            raise TooMany(MOST_QUESTIONS)
        grown = Book(book.loops, book.patterns, {**book.questions, name: expression})
        self._now = self._now.with_book(("learn", name, expression), grown)

    def drop(self, name):
        """A question goes."""
        book = self.book
        check_name(book, name)
        if len(book.names) == 1 or name in [kept for kept, _ in self._now.kept]:
            raise NotNow("drop")
        questions = {other: question for other, question in book.questions.items() if other != name}
        self._now = self._now.with_book(("drop", name), Book(book.loops, book.patterns, questions))

    def undo(self):
        """The last deed that stands is taken back."""
        if self._now.before is None:
            raise NothingDone("there is nothing to take back")
        self._now = self._now.before

    def answered(self):
        """The answers for the whole, of the questions that are told now."""
        return self._now.all_answered()

    def tell(self, expression):
        """The answer of an expression for the whole."""
        check_question(self.book, expression)
        answer = self._now.all_told([(expression, ())])[0]
        if answer is None:
            raise NotKnown("it is not told by what is kept")
        return answer

    def knows(self, expression):
        """Whether an expression is told now, and with any further rows."""
        check_question(self.book, expression)
        if not self._now.is_folded:
            return True
        return knows(self.book, self._now.kept, expression, self.rows)

    def tried(self, work):
        """What work returns for the house; if it fails, the house is as it was."""
        with self as same:
            return work(same)

    def copy(self):
        """An independent house that is the same, in no block."""
        other = House(self._first)
        other._now = self._now
        return other

    def history(self):
        """The deeds that stand, from the first one on, each with what was answered behind it."""
        return [(shown_deed(moment.deed), moment.all_answered()) for moment in moments_to(self._now)]

    def _check_place(self, at):
        """Refuse what is no index of an open row."""
        if not is_within(at, 0, len(self._now.opened) - 1):
            raise NoPlace(at)
