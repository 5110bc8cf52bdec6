"""Reckoning with quotients that are known to be such: nothing is checked here."""

from math import gcd

NOUGHT = (0, 1)
ONE = (1, 1)


def reduced(top, bottom):
    """The quotient that stands for top / bottom; bottom is not 0."""
    shared = gcd(top, bottom)
    if bottom < 0:
        shared = -shared
    return (top // shared, bottom // shared)


def added(one, other):
    """One plus other."""
    if one[1] == 1 and other[1] == 1:
        return (one[0] + other[0], 1)
    return reduced(one[0] * other[1] + other[0] * one[1], one[1] * other[1])


def negated(quotient):
    """The quotient with its sign changed."""
    return (-quotient[0], quotient[1])


def taken_off(one, other):
    """One less other."""
    return added(one, negated(other))


def multiplied(one, other):
    """One times other."""
    if one[1] == 1 and other[1] == 1:
        return (one[0] * other[0], 1)
    return reduced(one[0] * other[0], one[1] * other[1])


def divided(one, other):
    """One divided by other, which is not nought."""
    return reduced(one[0] * other[1], one[1] * other[0])


def is_less(one, other):
    """True if one is below other."""
    return one[0] * other[1] < other[0] * one[1]


def span_over(quotients):
    """The span from the least to the greatest of the quotients, of which there is one at least."""
    least = greatest = quotients[0]
    for quotient in quotients:
        if is_less(quotient, least):
            least = quotient
        if is_less(greatest, quotient):
            greatest = quotient
    return (least, greatest)
