"""Widths of rows: what fits, and which rows are wider than others."""

from sevenruns.asking import ask
from sevenruns.things import is_input, is_integer, is_positive


def width_for(low, high):
    """The least width with which a row of the value low fits, and one of the value high."""
    ask(is_integer(low), "low")
    ask(is_integer(high) and low <= high, "high")
    return span_width((low, high))


def fits(width, integer):
    """True if a row of this width and this value fits, else False."""
    ask(is_positive(width), "width")
    ask(is_integer(integer), "integer")
    return least_width(integer) <= width


def guards_of(code, width):
    """The lot of the rows whose width is above this one."""
    ask(is_positive(width), "width")
    return tuple(k for k in range(len(code[2])) if code[2][k][3] > width)


def narrowed(code, row):
    """The code in which the width of this row is less by one."""
    size, bottom, rows = code
    ask(is_input(len(rows), row) and rows[row][3] > 1, "row")
    word, one, other, width = rows[row]
    return (size, bottom, rows[:row] + ((word, one, other, width - 1),) + rows[row + 1:])


def least_width(integer):
    """The least width with which a row of this value fits."""
    # One bit tells the sign; what is below 0 reaches one further than what is above.
    return (integer if integer >= 0 else -1 - integer).bit_length() + 1


def span_width(span):
    """The least width with which both ends of a span of integers fit."""
    return max(least_width(span[0]), least_width(span[1]))
