"""Runs one up in each of some inputs and in each two of them, and papers of such runs."""

from sevenruns.asking import ask, ask_point
from sevenruns.crosses import crossing, grid_results, pairs_in
from sevenruns.formmaking import form_difference
from sevenruns.formruns import standing_point
from sevenruns.kindmaking import kind_of
from sevenruns.nodes import nodes_of
from sevenruns.things import is_lot


def runs_at(program, point, lot):
    """The tuple of the results at the point, one up in each input of the lot, one up in each two of them."""
    ask_point(program[0], point)
    ask(is_lot(program[0], lot), "lot")
    return grid_results(program, point, lot)


def grid_paper(form):
    """None if the form's kind has no knot, else a pair (point, lot) that lets_grid accepts."""
    knots = [sons for word, _, sons in nodes_of(kind_of(form)) if word == "knot"]
    if not knots:
        return None
    most = max([len(sons) for sons in knots])
    lot = tuple(son[0] for son in [sons for sons in knots if len(sons) == most][0])
    return (standing_point(form[0], parting_forms(form, lot)), lot)


def lots_between(lot):
    """The list of the lots of 2 inputs or more of the lot, but not all."""
    found = [()]
    for which in lot:
        found = found + [part + (which,) for part in found]
    return [part for part in found if 2 <= len(part) < len(lot)]


def parting_forms(form, lot):
    """Forms, none of them nought, such that no lot between is told as a clan where none is nought.

    The lot has one input of each son of a knot."""
    triples, forms = [], []
    for part in lots_between(lot):
        if not any([keeps_apart(triple, part) for triple in triples]):
            triple, spread = parting_triple(form, part, lot)
            triples.append(triple)
            forms.append(spread)
    return forms


def keeps_apart(triple, part):
    """True if the first two inputs of the triple are in the part and the third one is not."""
    return triple[0] in part and triple[1] in part and triple[2] not in part


def parting_triple(form, part, lot):
    """Two inputs of the part and one beside it that keep it from being a clan, and the form that shows it."""
    for one, other in pairs_in(part):
        for third in lot:
            if third not in part:
                spread = form_difference(crossing(form, one, (other, third)), crossing(form, other, (one, third)))
                if spread[1] != ():
                    return (one, other, third), spread
