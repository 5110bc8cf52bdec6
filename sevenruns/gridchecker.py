"""The checker of papers of runs one up in each of some inputs and in each two of them."""

from sevenruns.bends import point_paper
from sevenruns.crosses import grid_results, pairs_in, steps_told
from sevenruns.errors import InvalidPaper
from sevenruns.grids import lots_between
from sevenruns.reckoning import multiplied
from sevenruns.things import is_lot


def lets_grid(program, thing):
    """How many inputs the lot of the paper thing has; InvalidPaper for runs that let a program of less breadth."""
    point, lot = point_paper(program, thing)
    if not is_lot(program[0], lot) or not 3 <= len(lot) <= 8:
        raise InvalidPaper("lot", -1)
    if tell_clan(grid_results(program, point, lot), len(lot)):
        raise InvalidPaper("clan", -1)
    return len(lot)


def tell_clan(results, many):
    """True if the results for so many inputs let a lot of 2 or more of them, not all, be a clan."""
    firsts, seconds = steps_told(results, many)
    every = tuple(range(many))
    alike = {}
    for one, other in pairs_in(every):
        for third in every:
            if third not in (one, other):
                mine = multiplied(firsts[one], seconds[(other, third)])
                alike[(one, other, third)] = mine == multiplied(firsts[other], seconds[(one, third)])
    return any([is_told_clan(alike, lot, every) for lot in lots_between(every)])


def is_told_clan(alike, lot, every):
    """True if the table tells that no input beside the lot keeps two of its inputs apart."""
    outside = [which for which in every if which not in lot]
    return all([alike[(one, other, third)] for one, other in pairs_in(lot) for third in outside])
