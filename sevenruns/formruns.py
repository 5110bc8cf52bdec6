"""Forms at points, with a quotient in the place of an input, and their steps."""

from sevenruns.asking import ask, ask_input, ask_point, ask_quotient
from sevenruns.formfacts import ask_first
from sevenruns.formmaking import gathered, number_of
from sevenruns.reckoning import NOUGHT, ONE, added, multiplied
from sevenruns.things import is_input


def value_of(form, point):
    """The form's value at the point."""
    ask_point(form[0], point)
    rest = form
    for which in range(form[0]):
        rest = form_at(rest, which, point[which])
    return number_of(rest)


def with_number(form, which, quotient):
    """The form, of the same size, that has the quotient in the place of the input which."""
    ask_input(form[0], which)
    ask_quotient(quotient)
    return form_at(form, which, quotient)


def form_at(form, which, quotient):
    """As with_number; nothing is checked."""
    terms = []
    for bundle, own in form[1]:
        for _ in range(bundle.count(which)):
            own = multiplied(own, quotient)
        terms.append((without(bundle, which), own))
    return gathered(form[0], terms)


def without(bundle, which):
    """The bundle without the input which, however often it stands there."""
    return tuple(entry for entry in bundle if entry != which)


def step_of(form, which):
    """The step by which of a form of first degree, of the same size."""
    ask_input(form[0], which)
    ask_first(form)
    return step_by(form, which)


def step_two(form, which, other):
    """The step by which and other, two unlike inputs, of a form of first degree."""
    ask_input(form[0], which)
    ask(is_input(form[0], other) and other != which, "other")
    ask_first(form)
    return step_by(step_by(form, which), other)


def step_by(form, which):
    """As step_of; nothing is checked."""
    return gathered(form[0], [(without(bundle, which), own) for bundle, own in form[1] if which in bundle])


def standing_point(size, forms):
    """A point of numbers at which none of the forms, which are not nought, has the value nought.

    Each number is the least one that lets the forms stand, one input after the other."""
    point = []
    for which in range(size):
        number = standing_number(forms, which)
        forms = [form_at(form, which, number) for form in forms]
        point.append(number)
    return tuple(point)


def standing_number(forms, which):
    """The least number with which, in the place of which, none of the forms is nought."""
    number = NOUGHT
    # A form becomes nought for no more numbers than its degree in which.
    while any([form_at(form, which, number)[1] == () for form in forms]):
        number = added(number, ONE)
    return number
