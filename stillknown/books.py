"""Books: loops, patterns, and the questions that are put together of them."""

from stillknown.answers import answer_over
from stillknown.errors import BadBook, BadExpression, NoQuestion, TooMany
from stillknown.expressions import bound_over, degree_over, wrong_spot
from stillknown.loops import Loop
from stillknown.patterns import Pattern
from stillknown.values import checked_rows, is_dict_of_names, is_key_of

BOUND_OF_ONE = 6
BOUND_OF_ALL = 9


def are_loops(value):
    """Whether a value is a dict from 1 to 4 names to loops with the same kinds."""
    if not is_dict_of_names(value, 1, 4):
        return False
    if not all([isinstance(loop, Loop) for loop in value.values()]):
        return False
    kinds = [loop.kinds for loop in value.values()]
    return all([some == kinds[0] for some in kinds])


def are_patterns(kinds, value):
    """Whether a value is a dict from 0 to 3 names to patterns with these kinds."""
    if not is_dict_of_names(value, 0, 3):
        return False
    return all([isinstance(pattern, Pattern) and pattern.kinds == kinds for pattern in value.values()])


class Book:
    """A book of questions over all rows that ever came."""

    def __init__(self, loops, patterns, questions):
        if not are_loops(loops):
            raise BadBook("loops")
        self._loops = {name: loops[name] for name in sorted(loops)}
        self._kinds = self._loops[min(self._loops)].kinds
        if not are_patterns(self._kinds, patterns):
            raise BadBook("patterns")
        self._patterns = {name: patterns[name] for name in sorted(patterns)}
        if not self._are_questions(questions):
            raise BadBook("questions")
        self._questions = {name: questions[name] for name in sorted(questions)}
        bounds = [self.bound(name) for name in self._questions]
        if max(bounds) > BOUND_OF_ONE:
            raise TooMany(BOUND_OF_ONE)
        if sum(bounds) > BOUND_OF_ALL:
            raise TooMany(BOUND_OF_ALL)

    def __eq__(self, other):
        if not isinstance(other, Book):
            return False
        if self._loops != other._loops or self._patterns != other._patterns:
            return False
        return self._questions == other._questions

    @property
    def loops(self):
        return dict(self._loops)

    @property
    def patterns(self):
        return dict(self._patterns)

    @property
    def questions(self):
        return dict(self._questions)

    @property
    def kinds(self):
        return self._kinds

    @property
    def names(self):
        return tuple(self._questions)

    def answer(self, name, rows):
        """The answer of a question."""
        return self._answer(self._question(name), checked_rows(self._kinds, rows))

    def answers(self, rows):
        """The answers of all questions."""
        listed = checked_rows(self._kinds, rows)
        return {name: self._answer(self._questions[name], listed) for name in self._questions}

    def bound(self, name):
        """The bound of a question."""
        return bound_over(self._loops, self._patterns, self._question(name))

    def degree(self, name):
        """The degree of a question."""
        return degree_over(self._loops, self._question(name))

    def answer_of(self, expression, rows):
        """The answer of an expression over the loops and patterns."""
        self._check(expression)
        return self._answer(expression, checked_rows(self._kinds, rows))

    def bound_of(self, expression):
        """The bound of an expression over the loops and patterns."""
        self._check(expression)
        return bound_over(self._loops, self._patterns, expression)

    def degree_of(self, expression):
        """The degree of an expression over the loops and patterns."""
        self._check(expression)
        return degree_over(self._loops, expression)

    def _answer(self, expression, rows):
        """The answer for what is known to be an expression and a row list."""
        return answer_over(self._loops, self._patterns, expression, rows)

    def _question(self, name):
        """The question of this name."""
        if not is_key_of(name, self._questions):
            raise NoQuestion(name)
        return self._questions[name]

    def _spot(self, expression):
        """The spot of the first wrong part of an expression, None if there is none."""
        return wrong_spot(self._loops, self._patterns, self._kinds, expression)

    def _check(self, expression):
        """Refuse what is no expression over the loops and patterns."""
        spot = self._spot(expression)
        if spot is not None:
            raise BadExpression(spot)

    def _are_questions(self, value):
        """Whether a value is a dict from 1 to 4 names to expressions."""
        if not is_dict_of_names(value, 1, 4):
            return False
        return all([self._spot(expression) is None for expression in value.values()])
