"""Codes run at points of whole quotients."""

from sevenruns.asking import ask
from sevenruns.errors import Trapped
from sevenruns.reckoning import reduced
from sevenruns.things import is_point
from sevenruns.widths import least_width


def run_code(code, point):
    """The value of the code at the point; Trapped for the first row that does not fit."""
    values = trace_code(code, point)
    if len(values) < len(code[2]):
        raise Trapped(len(values))
    return reduced(values[-1], code[1])


def trace_code(code, point):
    """The tuple of the values of the rows ahead of the first that does not fit, of all rows if all fit."""
    ask(is_whole_point(code[0], point), "point")
    values = []
    for row in code[2]:
        value = row_value(row, point, values)
        if least_width(value) > row[3]:
            break
        values.append(value)
    return tuple(values)


def is_whole_point(size, thing):
    """True if thing is a tuple of as many whole quotients as size says."""
    return is_point(size, thing) and all([entry[1] == 1 for entry in thing])


def free_values(code, point):
    """The list of the values of all rows at a point of whole quotients, whatever the widths are."""
    values = []
    for row in code[2]:
        values.append(row_value(row, point, values))
    return values


def row_value(row, point, values):
    """The value of a row behind rows with these values."""
    word, one, other, _ = row
    if word == "in":
        return point[one][0]
    if word == "num":
        return one
    if word == "add":
        return values[one] + values[other]
    return values[one] - values[other] if word == "sub" else values[one] * values[other]
