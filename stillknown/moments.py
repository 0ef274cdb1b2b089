"""A house at one moment: nothing in it is ever changed, each deed leads to a moment of its own."""

from stillknown.errors import NotKnown
from stillknown.hanging import hung_on
from stillknown.ownforms import answer_by, own_form
from stillknown.pasts import Past
from stillknown.tables import dot


class Moment:
    """A book, the open rows, what is kept of the folded ones, and the deed that led here."""

    def __init__(self, asked, opened):
        self.asked = asked
        self.opened = opened
        # As long as no fold stands, no rows are folded, and all is told of them.
        self.is_folded = False
        self.kept = ()
        self.worths = ()
        self.deed = None
        self.before = None

    def next_one(self, deed):
        """The moment behind a deed, as this one but for what the deed changes."""
        found = Moment(self.asked, self.opened)
        found.is_folded = self.is_folded
        found.kept = self.kept
        found.worths = self.worths
        found.deed = deed
        found.before = self
        return found

    def with_rows(self, deed, rows):
        """The moment behind a deed that changes the open rows."""
        found = self.next_one(deed)
        found.opened = tuple(rows)
        return found

    def with_book(self, deed, book):
        """The moment behind a deed that changes the book."""
        found = self.next_one(deed)
        found.asked = book
        return found

    def with_fold(self, keep):
        """The moment behind a fold by a keep whose row lists are tuples."""
        questions = self.asked.questions
        numbers = self.all_told([(questions[name], behind) for name, behind in keep])
        if not all([number is not None for number in numbers]):
            raise NotKnown("not all of the new keep is told by what was kept")
        found = self.next_one(("fold", keep))
        found.opened = ()
        found.is_folded = True
        found.kept = keep
        found.worths = tuple(numbers)
        return found

    def all_told(self, wishes):
        """For pairs of an expression and rows behind the open ones the answers, None for those that are not told."""
        whole = [(expression, list(self.opened) + list(behind)) for expression, behind in wishes]
        if not self.is_folded:
            return [answer_by(own_form(self.asked, expression), rows) for expression, rows in whole]
        unlike = []
        for expression, _ in whole:
            if expression not in unlike:
                unlike.append(expression)
        past = Past(self.asked, self.kept, unlike, None)
        found = [hung_on(past.kept, past.told(unlike.index(expression), rows)) for expression, rows in whole]
        return [None if line is None else dot(line[1], (1,) + self.worths) // line[0] for line in found]

    def all_answered(self):
        """The dict from the names of the questions that are told to their answers."""
        questions = self.asked.questions
        told = self.all_told([(questions[name], ()) for name in questions])
        return {name: answer for name, answer in zip(questions, told) if answer is not None}


def moments_to(moment):
    """The moments behind each deed that led to a moment, from the first one on."""
    found = []
    while moment.before is not None:
        found.append(moment)
        moment = moment.before
    return found[::-1]


def listed_keep(keep):
    """A keep with lists of its own."""
    return [(name, list(behind)) for name, behind in keep]


def shown_deed(deed):
    """A deed as the log has it, with lists of its own."""
    return ("fold", listed_keep(deed[1])) if deed[0] == "fold" else deed
