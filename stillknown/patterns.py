"""Patterns: machines over the kinds of rows."""

from stillknown.errors import BadPattern
from stillknown.values import checked_rows, is_dict_of_names, is_list, is_within


def are_states(value, many):
    """Whether a value is a list of states, of which there are so many."""
    return is_list(value) and all([is_within(state, 0, many - 1) for state in value])


def are_moves(value):
    """Whether a value tells for each kind to which state each state leads."""
    if not is_dict_of_names(value, 1, 3) or not all([is_list(states) for states in value.values()]):
        return False
    many = max([len(states) for states in value.values()])
    if not 1 <= many <= 4:
        return False
    return all([len(states) == many and are_states(states, many) for states in value.values()])


def are_good(value, many):
    """Whether a value is a list of different states, of which there are so many."""
    if not are_states(value, many):
        return False
    return all([value.count(state) == 1 for state in value])


class Pattern:
    """A pattern: a row list fits it if its kinds lead from the state 0 to a good state."""

    def __init__(self, steps, good):
        if not are_moves(steps):
            raise BadPattern("steps")
        self._steps = {kind: tuple(steps[kind]) for kind in sorted(steps)}
        self._states = len(self._steps[min(self._steps)])
        if not are_good(good, self._states):
            raise BadPattern("good")
        self._good = tuple(sorted(good))

    def __eq__(self, other):
        if not isinstance(other, Pattern):
            return False
        return self._steps == other._steps and self._good == other._good

    @property
    def steps(self):
        return dict(self._steps)

    @property
    def good(self):
        return self._good

    @property
    def states(self):
        return self._states

    @property
    def kinds(self):
        return tuple(self._steps)

    def fits(self, rows):
        """Whether the rows lead to a good state."""
        return self.fits_along(checked_rows(self._steps, rows))[-1]

    def fits_along(self, rows):
        """Whether no rows fit, and the rows up to each one; the rows are known to be a row list."""
        state = 0
        marks = [state in self._good]
        for kind, _ in rows:
            state = self._steps[kind][state]
            marks.append(state in self._good)
        return marks
