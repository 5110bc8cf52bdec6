"""True spans of programs of first degree, and what their told spans lose."""

from sevenruns.corners import corner_span
from sevenruns.expanding import form_of
from sevenruns.reckoning import NOUGHT, taken_off
from sevenruns.tolds import told_span


def true_span(program, box):
    """The true span of the result."""
    return corner_span(form_of(program), box)


def lost_on(program, box):
    """How far the told span goes beyond the true one, at the least and at the greatest end."""
    near, far = true_span(program, box)
    least, greatest = told_span(program, box)
    return (taken_off(near, least), taken_off(greatest, far))


def exact_on(program, box):
    """True if the program is exact on the box, else False."""
    return lost_on(program, box) == (NOUGHT, NOUGHT)
