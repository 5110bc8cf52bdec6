"""Forms of first degree at the corners of a box."""

from sevenruns.asking import ask_box
from sevenruns.boxes import corners_of
from sevenruns.formfacts import ask_first
from sevenruns.formmaking import number_of
from sevenruns.formruns import form_at
from sevenruns.reckoning import span_over


def corner_span(form, box):
    """The span from the least to the greatest value of the form at corners of the box."""
    return span_over(asked_values(form, box))


def corner_ends(form, box):
    """The first corner with the least value, and the first with the greatest."""
    values = asked_values(form, box)
    least, greatest = span_over(values)
    corners = list(corners_of(box))
    return (corners[values.index(least)], corners[values.index(greatest)])


def corner_counts(form, box):
    """At how many corners of the box the form has the least value, and at how many the greatest."""
    values = asked_values(form, box)
    least, greatest = span_over(values)
    return (values.count(least), values.count(greatest))


def asked_values(form, box):
    """The list of the form's values at the corners, in the sequence of corners_of."""
    ask_box(form[0], box)
    ask_first(form)
    # One input after the other, so that corners with the same ends share the work.
    forms = [form]
    for which in range(form[0]):
        near, far = box[which]
        ends = [near] if near == far else [near, far]
        forms = [form_at(part, which, end) for part in forms for end in ends]
    return [number_of(part) for part in forms]
