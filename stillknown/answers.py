"""What expressions answer, by going over the rows as the words tell."""


def answer_over(loops, patterns, expression, rows):
    """The answer of an expression for a row list of its kinds."""
    if isinstance(expression, str):
        return loops[expression].answers_along(rows)[-1]
    word = expression[0]
    if word == "cuts":
        return cut_answer(loops, patterns, expression, rows)
    if word == "star":
        return star_answer(loops, patterns, expression[1], rows)
    if word == "turned":
        return answer_over(loops, patterns, expression[1], rows[::-1])
    if word == "without":
        return answer_over(loops, patterns, expression[2], rows_without(expression[1], rows))
    if word == "only":
        fits = patterns[expression[1]].fits_along(rows)[-1]
        return answer_over(loops, patterns, expression[2], rows) if fits else 0
    second = answer_over(loops, patterns, expression[2], rows)
    if word == "times":
        return expression[1] * second
    first = answer_over(loops, patterns, expression[1], rows)
    return first + second if word == "plus" else first * second


def rows_without(kind, rows):
    """The rows that are not of a kind."""
    return [row for row in rows if row[0] != kind]


def cut_answer(loops, patterns, expression, rows):
    """The answer of ("cuts", e, f)."""
    last = len(rows)
    firsts = span_answers(loops, patterns, expression[1], rows)
    seconds = span_answers(loops, patterns, expression[2], rows)
    return cut_sum(firsts, seconds, 0, last)


def star_answer(loops, patterns, inner, rows):
    """The answer of ("star", inner)."""
    return stars_from_ends(span_answers(loops, patterns, inner, rows), len(rows))[0]


def span_answers(loops, patterns, expression, rows):
    """A table with the answer for rows[begin:end] at [begin][end]; where end is below begin it tells nothing."""
    if isinstance(expression, str):
        many = len(rows) + 1
        return [[0] * at + loops[expression].answers_along(rows[at:]) for at in range(many)]
    word = expression[0]
    if word == "turned":
        return turned_spans(span_answers(loops, patterns, expression[1], rows[::-1]))
    if word == "without":
        left = rows_without(expression[1], rows)
        return thinned_spans(span_answers(loops, patterns, expression[2], left), expression[1], rows)
    if word == "star":
        return star_spans(span_answers(loops, patterns, expression[1], rows))
    seconds = span_answers(loops, patterns, expression[2], rows)
    if word == "times":
        return [[expression[1] * answer for answer in line] for line in seconds]
    if word == "only":
        return fitting_spans(seconds, patterns[expression[1]], rows)
    firsts = span_answers(loops, patterns, expression[1], rows)
    if word == "cuts":
        return cut_spans(firsts, seconds)
    if word == "plus":
        return [[one + other for one, other in zip(*lines)] for lines in zip(firsts, seconds)]
    return [[one * other for one, other in zip(*lines)] for lines in zip(firsts, seconds)]


def turned_spans(spans):
    """The table for the rows turned round, given the one for the turned rows."""
    last = len(spans) - 1
    return [[spans[last - end][last - begin] for end in range(last + 1)] for begin in range(last + 1)]


def thinned_spans(spans, kind, rows):
    """The table for all rows, given the one for those that are not of a kind."""
    counts = [len(rows_without(kind, rows[:end])) for end in range(len(rows) + 1)]
    return [[spans[first][last] for last in counts] for first in counts]


def fitting_spans(spans, pattern, rows):
    """The table with 0 where the rows do not fit a pattern."""
    table = []
    for begin, line in enumerate(spans):
        marks = [False] * begin + pattern.fits_along(rows[begin:])
        table.append([answer if fits else 0 for answer, fits in zip(line, marks)])
    return table


def cut_sum(firsts, seconds, begin, end):
    """The sum over all ways to cut rows[begin:end] in two parts."""
    return sum([firsts[begin][cut] * seconds[cut][end] for cut in range(begin, end + 1)])


def cut_spans(firsts, seconds):
    """The table of the sums over all ways to cut in two parts."""
    places = range(len(firsts))
    return [[cut_sum(firsts, seconds, begin, end) for end in places] for begin in places]


def stars_from_ends(spans, end):
    """For each begin up to end the sum, over all ways to cut rows[begin:end] in any number of parts."""
    answers = [0] * end + [1]
    for begin in range(end - 1, -1, -1):
        # The first part ends at cut; it has at least one row.
        answers[begin] = sum([spans[begin][cut] * answers[cut] for cut in range(begin + 1, end + 1)])
    return answers


def star_spans(spans):
    """The table of the sums over all ways to cut in any number of parts."""
    last = len(spans) - 1
    lines = [stars_from_ends(spans, end) + [0] * (last - end) for end in range(last + 1)]
    return [list(line) for line in zip(*lines)]
