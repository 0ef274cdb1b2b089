"""Books as texts, written and read again."""

from stillknown.asked import check_book
from stillknown.books import BOUND_OF_ALL, BOUND_OF_ONE, Book
from stillknown.errors import BadText
from stillknown.expressions import bound_over, wrong_spot
from stillknown.loops import Loop
from stillknown.patterns import Pattern
from stillknown.values import is_name, is_within
from stillknown.words import expression_in, number_in, sum_in, sum_text, words_for

MOST_LOOPS = 4
MOST_PATTERNS = 3
MOST_QUESTIONS = 4
MOST_VARIABLES = 3
MOST_KINDS = 3
MOST_STATES = 4
FARTHEST_START = 99


def loop_lines(name, loop):
    """The lines of a loop."""
    start, steps = loop.start, loop.steps
    lines = [f"loop {name}"] + [f"start {variable} {start[variable]}" for variable in loop.variables]
    for kind in loop.kinds:
        lines.append(f"on {kind}")
        lines.extend([f"{variable} = {sum_text(steps[kind][variable])}" for variable in loop.variables])
    lines.append(f"answer {sum_text(loop.last)}")
    return lines


def pattern_lines(name, pattern):
    """The lines of a pattern."""
    steps = pattern.steps
    lines = [f"pattern {name}"]
    for kind in pattern.kinds:
        lines.append(" ".join(["on", kind] + [str(state) for state in steps[kind]]))
    lines.append(" ".join(["good"] + [str(state) for state in pattern.good]))
    return lines


def book_lines(book):
    """The lines of a book."""
    loops, patterns, questions = book.loops, book.patterns, book.questions
    lines = []
    for name in loops:
        lines.extend(loop_lines(name, loops[name]))
    for name in patterns:
        lines.extend(pattern_lines(name, patterns[name]))
    lines.extend([" ".join(["question", name] + words_for(questions[name])) for name in questions])
    return lines


def book_text(book):
    """The text of a book."""
    check_book(book)
    return "".join([line + "\n" for line in book_lines(book)])


def words_of(book, expression):
    """The words of an expression over a book."""
    check_book(book)
    # Refuses what is no expression; the bound itself is not asked.
    book.bound_of(expression)
    return " ".join(words_for(expression))


class Reader:
    """The ended lines of a text, taken one after the other."""

    def __init__(self, text):
        *lines, rest = text.split("\n")
        self.lines = lines
        self.unended = rest
        self.at = 0

    def words(self):
        """The words of the line that comes next; none if there is no such line."""
        return self.lines[self.at].split(" ") if self.at < len(self.lines) else []

    def begins(self, word):
        """Whether the line that comes next begins with a word."""
        return self.words()[:1] == [word]

    def go_on(self, can_stand):
        """Go on to the next line, if there is one that can stand here."""
        if not can_stand:
            raise BadText(self.at)
        self.at += 1


def read_name(reader, word, taken, most):
    """A line of a word and a name behind all those that are taken, of which there may be so many."""
    words = reader.words()
    reader.go_on(len(words) == 2 and words[0] == word and is_next_name(words[1], taken, most))
    return words[1]


def is_next_name(word, taken, most):
    """Whether a word is a name behind all those that are taken, of which there may be so many."""
    if not is_name(word) or len(taken) >= most:
        return False
    return all([other < word for other in taken])


def read_sum(reader, lead, variables, with_powers):
    """A line of a lead and a sum over some variables."""
    line = reader.lines[reader.at] if reader.at < len(reader.lines) else ""
    terms = sum_in(variables, line[len(lead):]) if line.startswith(lead) else None
    reader.go_on(terms is not None and (with_powers or all([term[1] == 0 for term in terms])))
    return terms


def read_start(reader):
    """The lines of the variables with their numbers."""
    start = {}
    while len(start) == 0 or reader.begins("start"):
        words = reader.words()
        can_stand = len(words) == 3 and words[0] == "start" and is_next_name(words[1], start, MOST_VARIABLES)
        number = number_in(words[2]) if can_stand else None
        reader.go_on(is_within(number, -FARTHEST_START, FARTHEST_START))
        start[words[1]] = number
    return start


def read_loop(reader, loops):
    """The lines of a loop, and its name."""
    name = read_name(reader, "loop", loops, MOST_LOOPS)
    start = read_start(reader)
    steps = {}
    kinds = [] if len(loops) == 0 else list(loops[min(loops)].kinds)
    while len(steps) < max(len(kinds), 1) or (len(kinds) == 0 and reader.begins("on")):
        if len(kinds) > 0 and reader.words() != ["on", kinds[len(steps)]]:
            raise BadText(reader.at)
        kind = read_name(reader, "on", steps, MOST_KINDS)
        steps[kind] = {variable: read_sum(reader, variable + " = ", start, True) for variable in start}
    last = read_sum(reader, "answer ", start, False)
    return name, Loop(start, steps, last)


def states_in(words, many):
    """The states that some words tell, of so many; None if a word tells none."""
    states = [number_in(word) for word in words]
    return states if all([is_within(state, 0, many - 1) for state in states]) else None


def read_pattern(reader, kinds, patterns):
    """The lines of a pattern, and its name."""
    name = read_name(reader, "pattern", patterns, MOST_PATTERNS)
    steps = {}
    many = 0
    for kind in kinds:
        words = reader.words()
        if many == 0:
            many = len(words) - 2
        states = states_in(words[2:], many)
        can_stand = words[:2] == ["on", kind] and 1 <= many <= MOST_STATES and len(words) == many + 2
        reader.go_on(can_stand and states is not None)
        steps[kind] = states
    words = reader.words()
    good = states_in(words[1:], many)
    can_stand = words[:1] == ["good"] and good is not None
    reader.go_on(can_stand and all([one < other for one, other in zip(good, good[1:])]))
    return name, Pattern(steps, good)


def read_question(reader, loops, patterns, questions):
    """The line of a question: its name and its expression."""
    words = reader.words()
    if words[:1] != ["question"] or len(words) < 3 or not is_next_name(words[1], questions, MOST_QUESTIONS):
        raise BadText(reader.at)
    expression = expression_in(words[2:])
    kinds = loops[min(loops)].kinds
    if expression is None or wrong_spot(loops, patterns, kinds, expression) is not None:
        raise BadText(reader.at)
    bounds = [bound_over(loops, patterns, questions[name]) for name in questions]
    bound = bound_over(loops, patterns, expression)
    reader.go_on(bound <= BOUND_OF_ONE and bound + sum(bounds) <= BOUND_OF_ALL)
    return words[1], expression


def read_book(text):
    """The book with exactly this text."""
    if not isinstance(text, str):
        raise BadText(0)
    reader = Reader(text)
    loops, patterns, questions = {}, {}, {}
    while len(loops) == 0 or reader.begins("loop"):
        name, loop = read_loop(reader, loops)
        loops[name] = loop
    while reader.begins("pattern"):
        name, pattern = read_pattern(reader, loops[min(loops)].kinds, patterns)
        patterns[name] = pattern
    while len(questions) == 0 or reader.at < len(reader.lines):
        name, expression = read_question(reader, loops, patterns, questions)
        questions[name] = expression
    if reader.unended != "":
        raise BadText(reader.at)
    return Book(loops, patterns, questions)
