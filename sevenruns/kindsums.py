"""Sums, differences, products and multiples of kinds, whatever inputs they have in common."""

from sevenruns.asking import ask, ask_input, ask_quotient
from sevenruns.formmaking import form_difference, form_multiple, form_product, form_sum
from sevenruns.kindthings import is_kind
from sevenruns.lettering import Lettering, shared_inputs
from sevenruns.parts import input_part, part_times
from sevenruns.reckoning import NOUGHT, multiplied
from sevenruns.trees import MOST_INPUTS


def input_kind(which):
    """The kind of the input which."""
    ask_input(MOST_INPUTS, which)
    return ("first", *input_part(which))


def bare_kind(quotient):
    """The kind of the quotient."""
    ask_quotient(quotient)
    return ("bare", quotient)


def kind_plus(one, other):
    """The kind of one plus other."""
    ask(is_kind(other), "other")
    return together("add", one, other)


def kind_minus(one, other):
    """The kind of one less other."""
    ask(is_kind(other), "other")
    return together("sub", one, other)


def kind_times(one, other):
    """The kind of one times other."""
    ask(is_kind(other), "other")
    return together("mul", one, other)


def kind_scaled(kind, quotient):
    """The kind of kind times the quotient, which may be nought."""
    ask_quotient(quotient)
    if quotient == NOUGHT:
        return ("bare", NOUGHT)
    if kind[0] == "bare":
        return ("bare", multiplied(kind[1], quotient))
    if kind[0] == "bent":
        return ("bent", form_multiple(kind[1], quotient))
    return ("first", *part_times(kind[1:], quotient))


def together(word, one, other):
    """The kind of what a line with this word makes of two reads that have the kinds one and other."""
    lettering = Lettering((one, other), shared_inputs((one, other)))
    first, second = lettering.kind_form(one), lettering.kind_form(other)
    if word == "mul":
        return lettering.kind_told(form_product(first, second))
    return lettering.kind_told(form_sum(first, second) if word == "add" else form_difference(first, second))
