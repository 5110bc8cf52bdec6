"""The checker of papers that show that no width of a code can be less."""

from sevenruns.boxes import in_box
from sevenruns.errors import InvalidPaper
from sevenruns.machine import free_values, is_whole_point
from sevenruns.rowspans import ask_whole_box
from sevenruns.things import is_pair
from sevenruns.widths import span_width


def lets_widths(code, box, thing):
    """All widths of the code, added; InvalidPaper for points at which some row would fit with less."""
    ask_whole_box(code, box)
    rows = code[2]
    if not isinstance(thing, tuple) or len(thing) != len(rows):
        raise InvalidPaper("shape", -1)
    for k in range(len(rows)):
        if not are_points(code[0], box, thing[k]):
            raise InvalidPaper("points", k)
        values = [free_values(code, point)[k] for point in thing[k]]
        if rows[k][3] > span_width(values):
            raise InvalidPaper("less", k)
    return sum([row[3] for row in rows])


def are_points(size, box, thing):
    """True if thing is a pair of points of whole quotients in the box."""
    return is_pair(thing) and all([is_whole_point(size, point) and in_box(box, point) for point in thing])
