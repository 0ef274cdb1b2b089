"""A plain going over the rows, and books made at random, for the tests."""

from itertools import product

from stillknown.books import Book
from stillknown.loops import Loop
from stillknown.patterns import Pattern

ODD_VALUES = (
    None, True, False, 0, -1, 10 ** 60 - 1, "", "a", "T", "t", "toolong", [], (), {}, [()], [[]], ([],),
    ["a"], ("a",), {"a": 1}, {1: 2}, {None: []}, {(1, 2): 3}, [("a", 1)], (("a", 1),), [["a", 1]],
    [[[[[[[[[[[[[[[[[[[]]]]]]]]]]]]]]]]]]], {"a": {"b": [True, {"c": ()}]}},
    Loop({"n": 0}, {"add": {"n": ()}}, ()), Pattern({"add": [0]}, []),
)


def loop_answer(loop, rows):
    """The answer of a loop, by the words of point 11."""
    def worth(terms, values, number):
        total = 0
        for name, power, coefficient in terms:
            part = coefficient
            if name != "":
                part *= values[name]
            for _ in range(power):
                part *= number
            total += part
        return total

    values = loop.start
    for kind, number in rows:
        values = {name: worth(loop.steps[kind][name], values, number) for name in values}
    return worth(loop.last, values, 0)


def pattern_fits(pattern, rows):
    """Whether rows fit a pattern, by the words of point 12."""
    state = 0
    for kind, _ in rows:
        state = pattern.steps[kind][state]
    return state in pattern.good


def plain_answer(book, expression, rows):
    """The answer of an expression, by the words of point 13, trying all cuts."""
    def at(inner, some):
        return plain_answer(book, inner, some)

    rows = list(rows)
    if isinstance(expression, str):
        return loop_answer(book.loops[expression], rows)
    word, first, *others = expression
    if word == "plus":
        return at(first, rows) + at(others[0], rows)
    if word == "times":
        return first * at(others[0], rows)
    if word == "both":
        return at(first, rows) * at(others[0], rows)
    if word == "cuts":
        return sum(at(first, rows[:cut]) * at(others[0], rows[cut:]) for cut in range(len(rows) + 1))
    if word == "star":
        return star_sum(book, first, rows)
    if word == "turned":
        return at(first, [rows[k] for k in range(len(rows) - 1, -1, -1)])
    if word == "without":
        return at(others[0], [row for row in rows if row[0] != first])
    return at(others[0], rows) if pattern_fits(book.patterns[first], rows) else 0


def star_sum(book, inner, rows):
    """All ways to put or not to put a cut between two neighbours."""
    if not rows:
        return 1
    total = 0
    for cuts in product([False, True], repeat=len(rows) - 1):
        worth, begin = 1, 0
        for end, cut in enumerate(cuts, start=1):
            if cut:
                worth *= plain_answer(book, inner, rows[begin:end])
                begin = end
        total += worth * plain_answer(book, inner, rows[begin:])
    return total


def plain_form_answer(form, rows):
    """What a form answers, by the words of point 20."""
    begin, tables, end = form
    row = list(begin)
    for kind, number in rows:
        table = [[sum(one[i][j] * number ** p for p, one in enumerate(tables[kind]))
                  for j in range(len(begin))] for i in range(len(begin))]
        row = [sum(row[i] * table[i][j] for i in range(len(begin))) for j in range(len(begin))]
    return sum(x * y for x, y in zip(row, end))


def all_rows(kinds, numbers, below):
    """All row lists of fewer rows than below, the shorter ones first, then ascending."""
    rows = sorted((kind, number) for kind in kinds for number in numbers)
    for length in range(below):
        for some in product(rows, repeat=length):
            yield list(some)


def random_sum(chance, variables, powers, most=3):
    """A sum made at random."""
    places = sorted((name, power) for name in ["", *variables] for power in powers)
    chosen = sorted(chance.sample(places, chance.randint(0, min(most, len(places)))))
    return tuple((name, power, chance.choice([-3, -2, -1, 1, 1, 2])) for name, power in chosen)


def random_loop(chance, kinds, variables, powers=(0, 1, 2)):
    """A loop made at random."""
    start = {name: chance.randint(-2, 2) for name in variables}
    steps = {kind: {name: random_sum(chance, variables, powers) for name in variables} for kind in kinds}
    return Loop(start, steps, random_sum(chance, variables, (0,)))


def random_pattern(chance, kinds, states):
    """A pattern made at random."""
    steps = {kind: [chance.randrange(states) for _ in range(states)] for kind in kinds}
    return Pattern(steps, [state for state in range(states) if chance.random() < 0.6])


def random_expression(chance, book, most, deep=5):
    """An expression made at random with a bound of at most so much."""
    def made(bound, left):
        words = ["=", "="]
        if left > 1:
            words += ["times", "plus", "both", "cuts", "star", "turned", "without", "only"]
        word = chance.choice(words)
        if word == "=":
            return chance.choice(sorted(book.loops))
        if word == "times":
            return ("times", chance.randint(-3, 3), made(bound, left - 1))
        if word == "star" or word == "turned":
            return (word, made(bound, left - 1))
        if word == "without":
            return (word, chance.choice(book.kinds), made(bound, left - 1))
        if word == "only":
            if not book.patterns:
                return chance.choice(sorted(book.loops))
            return (word, chance.choice(sorted(book.patterns)), made(bound, left - 1))
        return (word, made(bound, left - 1), made(bound, left - 1))

    while True:
        expression = made(most, deep)
        if book.bound_of(expression) <= most:
            return expression


def random_book(chance, kinds=("in", "out"), powers=(0, 1, 2)):
    """A book made at random, with loops of one and two variables and a pattern of two states."""
    loops = {
        "one": random_loop(chance, kinds, ("x",), powers),
        "two": random_loop(chance, kinds, ("x", "y"), powers),
    }
    patterns = {"p": random_pattern(chance, kinds, 2), "q": random_pattern(chance, kinds, 3)}
    return Book(loops, patterns, {"ask": "one"})


def determinant(table):
    """The determinant of a square table, along its first row."""
    if not table:
        return 1
    total = 0
    for at, number in enumerate(table[0]):
        rest = [line[:at] + line[at + 1:] for line in table[1:]]
        total += (-1) ** at * number * determinant(rest)
    return total


def random_questions(chance, book, most=5, deep=3, all_bounds=9):
    """A book with the loops and patterns of a book and questions made at random."""
    questions = {}
    left = all_bounds
    for name in chance.sample("abcd", chance.randint(1, 3)):
        expression = random_expression(chance, book, most, deep)
        if book.bound_of(expression) <= left:
            questions[name] = expression
            left -= book.bound_of(expression)
    return Book(book.loops, book.patterns, questions)


def random_rows(chance, kinds, most=4, size=3):
    """A row list made at random."""
    return [(chance.choice(kinds), chance.randint(-size, size)) for _ in range(chance.randint(0, most))]


def random_reading(chance, book, most=3):
    """A reading made at random."""
    return chance.choice(book.names), (random_rows(chance, book.kinds, most), random_rows(chance, book.kinds, most))


def random_mix(chance, book, most=4):
    """A mix made at random."""
    return [(chance.choice([-3, -2, -1, 1, 1, 2, 5]), random_rows(chance, book.kinds))
            for _ in range(chance.randint(1, most))]


def plain_told(book, reading, piece):
    """What a reading tells of a piece, by the words of point 30."""
    name, (ahead, behind) = reading
    return plain_answer(book, book.questions[name], list(ahead) + list(piece) + list(behind))


def plain_told_of_mix(book, reading, mix):
    """What a reading tells of a mix."""
    return sum(coefficient * plain_told(book, reading, piece) for coefficient, piece in mix)


PRIME = 2 ** 61 - 1


class Free:
    """Rows none of which hangs on the others, by remainders for a great prime."""

    def __init__(self, rows=()):
        self.lines = []
        for row in rows:
            self.take(row)

    def rest(self, row):
        row = [x % PRIME for x in row]
        for place, line in self.lines:
            if row[place]:
                row = [(x - row[place] * y) % PRIME for x, y in zip(row, line)]
        return row

    def take(self, row):
        row = self.rest(row)
        for place, x in enumerate(row):
            if x:
                back = pow(x, -1, PRIME)
                self.lines.append((place, [y * back % PRIME for y in row]))
                return True
        return False


def rank_of(table):
    """The rank of a table; no table in these tests is a times of the prime."""
    return len(Free(table).lines)


def plain_readings(book, below, numbers=(0, 1)):
    """All readings with fewer rows than so many ahead, and behind."""
    lists = list(all_rows(book.kinds, numbers, below))
    return [(name, (ahead, behind)) for name in book.names for ahead in lists for behind in lists]


def check_any_values(case, judge, good=()):
    """Any value is judged: True for those that are good, False for odd values."""
    for value in good:
        case.assertIs(judge(value), True, value)
    for value in ODD_VALUES:
        if value not in good:
            case.assertIs(judge(value), False, value)
