"""Crosses of three inputs, by runs and as forms."""

from sevenruns.asking import ask, ask_point
from sevenruns.bends import one_up
from sevenruns.formfacts import ask_first, hangs_on
from sevenruns.formmaking import form_product
from sevenruns.formruns import step_by
from sevenruns.reckoning import added, multiplied, taken_off
from sevenruns.runs import run_of
from sevenruns.things import is_lot


def cross_at(program, point, three):
    """The cross of the three inputs at the point, a triple of quotients, by runs."""
    ask_point(program[0], point)
    ask(is_three(program[0], three), "three")
    return cross_told(grid_results(program, point, three))


def alike_cross(form, three):
    """True if two forms of the cross of the three inputs are the same, else False."""
    ask(is_three(form[0], three), "three")
    ask_first(form)
    return not are_unlike(cross_forms(form, three))


def crossed(form):
    """The ascending tuple of the lots of three inputs whose cross is of three unlike forms."""
    ask_first(form)
    return tuple(three for three in threes_in(hangs_on(form)) if are_unlike(cross_forms(form, three)))


def is_three(size, thing):
    """True if thing is a lot of three inputs below size."""
    return is_lot(size, thing) and len(thing) == 3


def pairs_in(lot):
    """The ascending list of the lots of two entries of the lot."""
    return [(one, other) for one in lot for other in lot if one < other]


def threes_in(lot):
    """The ascending list of the lots of three entries of the lot."""
    return [(one, *pair) for one in lot for pair in pairs_in(lot) if one < pair[0]]


def grid_points(point, lot):
    """The list of the point, those one up in each input of the lot, and those one up in each two of them."""
    ups = [one_up(point, which) for which in lot]
    return [point, *ups] + [one_up(one_up(point, one), other) for one, other in pairs_in(lot)]


def grid_results(program, point, lot):
    """The tuple of the results at these points."""
    return tuple(run_of(program, entry) for entry in grid_points(point, lot))


def steps_told(results, many):
    """The steps that such results for many inputs tell: a list, and a dict from pairs, both ways, to steps by two."""
    changes = [taken_off(result, results[0]) for result in results[1:]]
    firsts = changes[:many]
    seconds = {}
    for (one, other), change in zip(pairs_in(list(range(many))), changes[many:]):
        step = taken_off(change, added(firsts[one], firsts[other]))
        seconds[(one, other)] = seconds[(other, one)] = step
    return firsts, seconds


def cross_told(results):
    """The cross that seven results for three inputs tell."""
    firsts, seconds = steps_told(results, 3)
    return tuple(multiplied(firsts[one], seconds[pair]) for one, pair in ((0, (1, 2)), (1, (0, 2)), (2, (0, 1))))


def cross_forms(form, three):
    """The triple of the forms of the cross of three inputs."""
    i, j, k = three
    return tuple(crossing(form, one, pair) for one, pair in ((i, (j, k)), (j, (i, k)), (k, (i, j))))


def crossing(form, one, pair):
    """The step by one times the step by the pair."""
    return form_product(step_by(form, one), step_by(step_by(form, pair[0]), pair[1]))


def are_unlike(three):
    """True if no two of the three values are the same."""
    one, other, third = three
    return one != other and one != third and other != third
