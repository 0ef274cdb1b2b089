"""The greatest modulus by which all answers leave one remainder, and row lists that show it."""

from math import gcd

from stillknown.lattices import Lattice
from stillknown.leastforms import row_letters
from stillknown.tables import dot, first_place, row_through


def leads_to(answers):
    """The greatest common divisor of the differences between the first answer and the others."""
    common = 0
    for answer in answers:
        common = gcd(common, answer - answers[0])
    return common


def telling_words(form, degree):
    """Pairs of a row list, the empty one first, and its answer, such that all other answers are sums of these.

    Each answer is a sum of those told, whole numbers of times each, these times together being 1.
    """
    letters = row_letters(form, degree)
    lattice = Lattice()
    lattice.take((1,) + form[0])
    kept = [([], form[0])]
    at = 0
    while at < len(kept):
        rows, behind = kept[at]
        at += 1
        for letter, table in letters:
            longer = row_through(behind, table)
            left = lattice.rest((1,) + longer)
            if first_place(left) is not None:
                lattice.take(left)
                kept.append((rows + [letter], longer))
    return [(rows, dot(behind, form[2])) for rows, behind in kept]


def common_remainder(form, degree):
    """The greatest modulus by which all answers leave one remainder, and this; 0 and the answer if there is but one."""
    answers = [answer for _, answer in telling_words(form, degree)]
    modulus = leads_to(answers)
    return modulus, answers[0] if modulus == 0 else answers[0] % modulus


def words_for(form, degree, modulus):
    """Row lists, the empty one first, whose answers differ by numbers with this greatest common divisor."""
    words = telling_words(form, degree)
    first = words[0][1]
    shown = [[]]
    have = 0
    while have != modulus:
        reached = [gcd(have, answer - first) for _, answer in words]
        have = min([divisor for divisor in reached if divisor > 0])
        shown.append(list(words[reached.index(have)][0]))
    return shown
