"""Papers that show that no width of a code can be less."""

from sevenruns.machine import free_values
from sevenruns.rowspans import asked_corners


def width_paper(code, box):
    """For each row a corner of the box with its least value, and one with its greatest."""
    corners = asked_corners(code, box)
    traces = [free_values(code, corner) for corner in corners]
    return tuple(end_corners(corners, [trace[k] for trace in traces]) for k in range(len(code[2])))


def end_corners(corners, values):
    """The corner with the least of the values, and that with the greatest."""
    return (corners[values.index(min(values))], corners[values.index(max(values))])
