"""Codes: what they are, and what keeps any value from being one."""

from sevenruns.errors import InvalidPaper
from sevenruns.things import are_inputs, has_word, is_input, is_integer, is_positive

ROW_WORDS = ("in", "num", "add", "sub", "mul")


def is_code(thing):
    """True if thing, any value, is a code, else False."""
    return code_fault(thing) is None


def lets_code(thing):
    """How many rows the code thing has; InvalidPaper for what is none."""
    fault = code_fault(thing)
    if fault is not None:
        raise InvalidPaper(fault[0], fault[1])
    return len(thing[2])


def code_fault(thing):
    """The first word and number that tell why thing is no code, or None."""
    if not isinstance(thing, tuple) or len(thing) != 3:
        return ("shape", -1)
    size, bottom, rows = thing
    if not is_positive(size):
        return ("size", -1)
    if not is_positive(bottom):
        return ("bottom", -1)
    if not isinstance(rows, tuple) or len(rows) == 0:
        return ("rows", -1)
    for k in range(len(rows)):
        word = row_fault(rows[k], size, k)
        if word is not None:
            return (word, k)
    return None


def row_fault(row, size, k):
    """The word for what keeps row from being row k of a code of this size, or None."""
    if not has_word(row) or row[0] not in ROW_WORDS or len(row) != 4:
        return "shape"
    if not are_row_places(row, size, k):
        return "places"
    return None if is_positive(row[3]) else "width"


def are_row_places(row, size, k):
    """True if the two entries behind the word of row k are right."""
    word, one, other, _ = row
    if word == "in":
        return is_input(size, one) and is_input(1, other)
    if word == "num":
        return is_integer(one) and is_input(1, other)
    return are_inputs(k, (one, other))
