"""Machines whose states are rows of numbers, found by walking through them in order."""


def walked(begin, letters, step, most):
    """The states that lead from a first one by letters: by how many letters, then by which.

    Returned is a triple of lists: the states, the indexes of the letters that lead to each of them first,
    and the numbers of the states that the letters lead to from each; None if there are more than most.
    """
    found, trails, lines = [begin], [()], []
    numbers = {begin: 0}
    at = 0
    while at < len(found):
        line = []
        for index, letter in enumerate(letters):
            state = step(found[at], letter)
            if state not in numbers:
                if len(found) == most:
                    return None
                numbers[state] = len(found)
                found.append(state)
                trails.append(trails[at] + (index,))
            line.append(numbers[state])
        lines.append(line)
        at += 1
    return found, trails, lines


def fitting(begin, letters, step, leads):
    """The rows of numbers that stand at the states of a machine, as a dict; None if they do not fit it.

    leads tells the state that the letter with an index leads to from a state. They do not fit if two
    words lead to one state and to rows of numbers that are not the same.
    """
    found = {0: begin}
    waiting = [0]
    at = 0
    while at < len(waiting):
        state = waiting[at]
        at += 1
        for index, letter in enumerate(letters):
            row = step(found[state], letter)
            to = leads(state, index)
            if to not in found:
                found[to] = row
                waiting.append(to)
            elif found[to] != row:
                return None
    return found
