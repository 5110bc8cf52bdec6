"""Three runs that show that a program's form is not of first degree."""

from sevenruns.errors import InvalidPaper
from sevenruns.formfacts import bent_input, degree_in
from sevenruns.formruns import form_at, value_of
from sevenruns.reckoning import NOUGHT, ONE, added, multiplied, taken_off
from sevenruns.runs import run_of
from sevenruns.things import is_input, is_pair, is_point


def bend_paper(form):
    """None if the form is of first degree, else a pair (point, which) that lets_bend accepts."""
    which = bent_input(form)
    if which is None:
        return None
    rest = form
    point = [NOUGHT for _ in range(form[0])]
    for beside in range(form[0]):
        if beside != which:
            point[beside] = bending_number(rest, which, beside)
            rest = form_at(rest, beside, point[beside])
    # What is left bends somewhere, as it is of degree 2 at least in which alone.
    while bend_of([value_of(rest, three) for three in steps_up(tuple(point), which)]) == NOUGHT:
        point[which] = added(point[which], ONE)
    return (tuple(point), which)


def bending_number(form, which, beside):
    """The least number with which, in the place of beside, the form is still bent in which."""
    number = NOUGHT
    # The greatest power of which has a form beside it that is nought for a few numbers only.
    while degree_in(form_at(form, beside, number), which) < 2:
        number = added(number, ONE)
    return number


def lets_bend(program, thing):
    """The result at the point and that two up in which, added, less twice that one up."""
    point, which = point_paper(program, thing)
    if not is_input(program[0], which):
        raise InvalidPaper("which", -1)
    bend = bend_of([run_of(program, three) for three in steps_up(point, which)])
    if bend == NOUGHT:
        raise InvalidPaper("straight", -1)
    return bend


def point_paper(program, thing):
    """The pair thing, its first value a point for the program; InvalidPaper for what is none."""
    if not is_pair(thing):
        raise InvalidPaper("shape", -1)
    if not is_point(program[0], thing[0]):
        raise InvalidPaper("point", -1)
    return thing


def bend_of(results):
    """The first and the third result added, less twice the second."""
    first, second, third = results
    return taken_off(added(first, third), multiplied((2, 1), second))


def one_up(point, which):
    """The point one up in which."""
    return point[:which] + (added(point[which], ONE),) + point[which + 1:]


def steps_up(point, which):
    """The list of the point, one up in which, and two up."""
    once = one_up(point, which)
    return [point, once, one_up(once, which)]
