"""Words of texts read: numbers, quotients, integers and spans, as they are written and not otherwise."""

from math import gcd

from sevenruns.things import is_span

DIGITS = "0123456789"


def number_in(word):
    """The number that is written so, without leading 0, else None."""
    if word == "" or not all([sign in DIGITS for sign in word]):
        return None
    if word[0] == "0" and word != "0":
        return None
    return int(word)


def quotient_in(word):
    """The quotient that is written so, else None."""
    top_word, slash, bottom_word = word.removeprefix("-").partition("/")
    top = number_in(top_word)
    bottom = number_in(bottom_word) if slash else 1
    if top is None or bottom is None or gcd(top, bottom) != 1:
        return None
    if slash and bottom < 2:
        return None
    if word.startswith("-"):
        return (-top, bottom) if top else None
    return (top, bottom)


def whole_in(word):
    """The integer that is written so, else None."""
    quotient = quotient_in(word)
    return quotient[0] if quotient is not None and quotient[1] == 1 else None


def span_in(word):
    """The span that is written so, else None."""
    near_word, _, far_word = word.partition(":")
    span = (quotient_in(near_word), quotient_in(far_word))
    return span if is_span(span) else None
