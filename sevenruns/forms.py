"""Forms: what they are, made from terms, added, subtracted, multiplied."""

from sevenruns.asking import ask, ask_input, ask_quotient
from sevenruns.errors import NotUsable
from sevenruns.formmaking import form_multiple, form_negated, form_product, form_sum
from sevenruns.formmaking import gathered, number_form, place_form
from sevenruns.reckoning import NOUGHT
from sevenruns.things import are_inputs, is_bundle, is_integer, is_pair, is_quotient


def is_form(thing):
    """True if thing, any value, is a form, else False."""
    if not is_pair(thing):
        return False
    size, terms = thing
    if not is_integer(size) or size < 1 or not isinstance(terms, tuple):
        return False
    for term in terms:
        if not is_pair(term) or not is_bundle(size, term[0]):
            return False
        if not is_quotient(term[1]) or term[1] == NOUGHT:
            return False
    return all([terms[k - 1][0] < terms[k][0] for k in range(1, len(terms))])


def is_other_form(form, thing):
    """True if thing is a form of the same size as form."""
    return is_form(thing) and thing[0] == form[0]


def form_from(size, *terms):
    """The form whose value is that of all terms added, the inputs of a bundle in any sequence."""
    for k in range(len(terms)):
        if not is_pair(terms[k]) or not are_inputs(size, terms[k][0]) or not is_quotient(terms[k][1]):
            raise NotUsable("terms", k)
    return gathered(size, [(tuple(sorted(bundle)), quotient) for bundle, quotient in terms])


def bare_form(size, quotient):
    """The form that has this quotient as its value everywhere."""
    ask_quotient(quotient)
    return number_form(size, quotient)


def input_form(size, which):
    """The form that has the input which as its value."""
    ask_input(size, which)
    return place_form(size, which)


def form_plus(one, other):
    """One plus other."""
    ask(is_other_form(one, other), "other")
    return form_sum(one, other)


def form_minus(one, other):
    """One less other."""
    ask(is_other_form(one, other), "other")
    return form_sum(one, form_negated(other))


def form_times(one, other):
    """One times other, multiplied out."""
    ask(is_other_form(one, other), "other")
    return form_product(one, other)


def form_scaled(form, quotient):
    """The form times the quotient."""
    ask_quotient(quotient)
    return form_multiple(form, quotient)
