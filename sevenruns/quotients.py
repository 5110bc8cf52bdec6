"""Quotients made, reckoned with and compared."""

from sevenruns.asking import ask
from sevenruns.reckoning import NOUGHT, added, divided, is_less, multiplied, reduced, taken_off
from sevenruns.things import is_integer, is_quotient


def quotient_of(top, bottom):
    """The quotient that stands for top / bottom; bottom is not 0, but may be below 0."""
    ask(is_integer(top), "top")
    ask(is_integer(bottom) and bottom != 0, "bottom")
    return reduced(top, bottom)


def plus(one, other):
    """One plus other."""
    ask(is_quotient(other), "other")
    return added(one, other)


def minus(one, other):
    """One less other."""
    ask(is_quotient(other), "other")
    return taken_off(one, other)


def times(one, other):
    """One times other."""
    ask(is_quotient(other), "other")
    return multiplied(one, other)


def over(one, other):
    """One divided by other, which is not nought."""
    ask(is_quotient(other) and other != NOUGHT, "other")
    return divided(one, other)


def less(one, other):
    """True if one is below other, else False."""
    ask(is_quotient(other), "other")
    return is_less(one, other)
