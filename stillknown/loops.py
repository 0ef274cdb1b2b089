"""Loops: variables that change by sums at each row."""

from stillknown.errors import BadLoop
from stillknown.values import checked_rows, is_dict_of_names, is_key_of, is_tuple_of, is_within


def is_term(variables, value):
    """Whether a value is a term over the variables."""
    if not is_tuple_of(value, 3):
        return False
    name, power, coefficient = value
    if name != "" and not is_key_of(name, variables):
        return False
    return is_within(power, 0, 2) and is_within(coefficient, -9, 9) and coefficient != 0


def is_sum(variables, value):
    """Whether a value is a sum over the variables."""
    if not isinstance(value, tuple) or not all([is_term(variables, term) for term in value]):
        return False
    return all([one[:2] < other[:2] for one, other in zip(value, value[1:])])


def is_start(value):
    """Whether a value tells variables and how they begin."""
    if not is_dict_of_names(value, 1, 3):
        return False
    return all([is_within(number, -99, 99) for number in value.values()])


def are_sums(variables, value):
    """Whether a value has just one sum for each of the variables."""
    if not isinstance(value, dict) or len(value) != len(variables):
        return False
    if not all([is_key_of(name, variables) for name in value]):
        return False
    return all([is_sum(variables, terms) for terms in value.values()])


def are_steps(variables, value):
    """Whether a value tells for each kind how the variables change."""
    if not is_dict_of_names(value, 1, 3):
        return False
    return all([are_sums(variables, sums) for sums in value.values()])


def is_last(variables, value):
    """Whether a value is a sum in which the number of a row does not stand."""
    return is_sum(variables, value) and all([term[1] == 0 for term in value])


def worth_of(terms, values, powers):
    """The worth of a sum, given the values of the variables and the powers of the row's number."""
    return sum([coefficient * values[name] * powers[power] for name, power, coefficient in terms])


class Loop:
    """A loop: how its variables begin, how they change at each row, and the sum that answers."""

    def __init__(self, start, steps, last):
        if not is_start(start):
            raise BadLoop("start")
        if not are_steps(start, steps):
            raise BadLoop("steps")
        if not is_last(start, last):
            raise BadLoop("last")
        self._start = {name: start[name] for name in sorted(start)}
        self._steps = {kind: {name: steps[kind][name] for name in sorted(start)} for kind in sorted(steps)}
        self._last = last

    def __eq__(self, other):
        if not isinstance(other, Loop):
            return False
        return self._start == other._start and self._steps == other._steps and self._last == other._last

    @property
    def start(self):
        return dict(self._start)

    @property
    def steps(self):
        return {kind: dict(self._steps[kind]) for kind in self._steps}

    @property
    def last(self):
        return self._last

    @property
    def kinds(self):
        return tuple(self._steps)

    @property
    def variables(self):
        return tuple(self._start)

    def answer(self, rows):
        """The answer behind all rows."""
        return self.answers_along(checked_rows(self._steps, rows))[-1]

    def held(self, rows):
        """The values of the variables behind the rows."""
        values = self._begun()
        for row in checked_rows(self._steps, rows):
            values = self._behind(values, row)
        return {name: values[name] for name in self._start}

    def answers_along(self, rows):
        """The answers ahead of all rows and behind each one; the rows are known to be a row list."""
        values = self._begun()
        answers = [self._told(values)]
        for row in rows:
            values = self._behind(values, row)
            answers.append(self._told(values))
        return answers

    def _begun(self):
        """The values ahead of all rows; "" stands for 1, as in terms."""
        return {"": 1, **self._start}

    def _behind(self, values, row):
        """The values behind one more row."""
        kind, number = row
        powers = (1, number, number * number)
        sums = self._steps[kind]
        after = {name: worth_of(sums[name], values, powers) for name in sums}
        after[""] = 1
        return after

    def _told(self, values):
        """The answer with these values."""
        return worth_of(self._last, values, (1,))
