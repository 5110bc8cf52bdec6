"""Seven runs, or six, that show that no program of breadth at most two with these results is exact."""

from sevenruns.asking import ask
from sevenruns.building import plain_of
from sevenruns.crosses import are_unlike, cross_forms, steps_told, threes_in
from sevenruns.formfacts import hangs_on
from sevenruns.formmaking import form_difference, gathered
from sevenruns.formruns import standing_point
from sevenruns.kindmaking import kind_of
from sevenruns.nodes import knots_of
from sevenruns.reckoning import NOUGHT, divided, multiplied
from sevenruns.things import is_point


def seven_bars(results):
    """True if the seven results bar, else False."""
    ask(is_point(7, results), "results")
    return free_pair(results) is None


def six_bars(results):
    """True if the six results bar, whatever that at the point itself is, else False."""
    ask(is_point(6, results), "results")
    ones, twos = results[:3], results[3:]
    return do_bar(ones, twos) or do_bar(twos, ones)


def free_program(results):
    """None if the seven results bar, else an exact plain program that has them."""
    ask(is_point(7, results), "results")
    pair = free_pair(results)
    return None if pair is None else plain_of(kind_of(free_form(results, pair)), 3)


def seven_paper(form):
    """None if the form's kind has no knot, else a pair (point, three) that lets_seven accepts."""
    # Without a knot all crosses would be reckoned in vain.
    if not knots_of(kind_of(form)):
        return None
    for three in threes_in(hangs_on(form)):
        cross = cross_forms(form, three)
        if are_unlike(cross):
            spreads = [form_difference(cross[one], cross[other]) for one, other in ((0, 1), (0, 2), (1, 2))]
            return (standing_point(form[0], spreads), three)


def do_bar(alike, unlike):
    """True if the three results in alike are one number, and this and the other three are four unlike ones."""
    return len(set(alike)) == 1 and len(set([alike[0], *unlike])) == 4


def free_pair(results):
    """Two of the three inputs that can be a clan of a form with the seven results, and the third; None without such."""
    firsts, seconds = steps_told(results, 3)
    for one, other, third in ((0, 1, 2), (0, 2, 1), (1, 2, 0)):
        steps = (firsts[one], firsts[other])
        beside = (seconds[(one, third)], seconds[(other, third)])
        alike = multiplied(steps[0], beside[1]) == multiplied(steps[1], beside[0])
        # Without steps, one by both needs what it is multiplied by to be free of the third.
        if alike and (steps != (NOUGHT, NOUGHT) or seconds[(one, other)] == NOUGHT or beside == (NOUGHT, NOUGHT)):
            return (one, other, third)
    return None


def free_form(results, pair):
    """The form with the seven results at noughts of which the first two inputs of the pair are a clan."""
    firsts, seconds = steps_told(results, 3)
    one, other, third = pair
    whole = NOUGHT
    for lead in (one, other):
        if firsts[lead] != NOUGHT:
            # What stands beside both inputs is what stands beside one, but for a number.
            whole = divided(multiplied(seconds[(one, other)], seconds[(lead, third)]), firsts[lead])
    terms = [((), results[0]), ((0, 1, 2), whole)]
    terms.extend([((which,), firsts[which]) for which in range(3)])
    terms.extend([(two, seconds[two]) for two in ((0, 1), (0, 2), (1, 2))])
    return gathered(3, terms)
