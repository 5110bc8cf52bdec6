"""Spans: sums, differences, products, and what they hold."""

from sevenruns.asking import ask, ask_quotient
from sevenruns.reckoning import added, is_less, multiplied, span_over, taken_off
from sevenruns.things import is_span


def span_plus(one, other):
    """The span of the sums of each quotient in one with each in other."""
    ask(is_span(other), "other")
    return (added(one[0], other[0]), added(one[1], other[1]))


def span_minus(one, other):
    """The span of the differences, one less other."""
    ask(is_span(other), "other")
    return (taken_off(one[0], other[1]), taken_off(one[1], other[0]))


def span_times(one, other):
    """The span of the products of each quotient in one with each in other."""
    ask(is_span(other), "other")
    return span_over([multiplied(end, far) for end in one for far in other])


def scaled_span(span, quotient):
    """The span of the products of quotient with all that span holds."""
    ask_quotient(quotient)
    return span_over([multiplied(end, quotient) for end in span])


def holds(span, quotient):
    """True if span holds quotient, else False."""
    ask_quotient(quotient)
    return not is_less(quotient, span[0]) and not is_less(span[1], quotient)


def span_within(span, other):
    """True if other holds each quotient that span holds, else False."""
    ask(is_span(other), "other")
    return holds(other, span[0]) and holds(other, span[1])


def spans_apart(one, other):
    """True if no quotient is held by both, else False."""
    ask(is_span(other), "other")
    return is_less(one[1], other[0]) or is_less(other[1], one[0])
