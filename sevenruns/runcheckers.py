"""The checkers of seven runs, and of six."""

from sevenruns.bends import point_paper
from sevenruns.crosses import cross_told, grid_points, is_three
from sevenruns.errors import InvalidPaper
from sevenruns.runs import run_of
from sevenruns.sevens import seven_bars, six_bars


def lets_seven(program, thing):
    """The cross at the point of the paper thing; InvalidPaper for runs that do not bar."""
    results = tuple(run_of(program, point) for point in asked_points(program, thing))
    if not seven_bars(results):
        raise InvalidPaper("free", -1)
    return cross_told(results)


def lets_six(program, thing):
    """The six results beside the point of the paper thing; InvalidPaper for runs that do not bar."""
    results = tuple(run_of(program, point) for point in asked_points(program, thing)[1:])
    if not six_bars(results):
        raise InvalidPaper("free", -1)
    return results


def asked_points(program, thing):
    """The list of the seven points that thing tells; InvalidPaper for what tells none."""
    point, three = point_paper(program, thing)
    if not is_three(program[0], three):
        raise InvalidPaper("three", -1)
    return grid_points(point, three)
