"""Units of functions: what they are, which functions they have, and which are called."""

from sevenruns.asking import ask
from sevenruns.lines import line_fault
from sevenruns.things import are_inputs, is_box, is_input, is_pair, is_span

LETTERS = "abcdefghijklmnopqrstuvwxyz"
LONGEST_NAME = 8


def is_name(thing):
    """True if thing, any value, is a string of one to eight small letters, else False."""
    if not isinstance(thing, str) or not 1 <= len(thing) <= LONGEST_NAME:
        return False
    return all([sign in LETTERS for sign in thing])


def is_function(thing):
    """True if thing, any value, is a function, else False."""
    if not isinstance(thing, tuple) or len(thing) != 4:
        return False
    name, box, lines, keeps = thing
    if not is_name(name) or not is_filled_tuple(box) or not is_box(len(box), box):
        return False
    if not is_filled_tuple(lines):
        return False
    for k in range(len(lines)):
        if not is_function_line(lines[k], len(box) + k):
            return False
    return are_keeps(keeps, len(box) + len(lines))


def is_unit(thing):
    """True if thing, any value, is a unit, else False."""
    if not is_pair(thing) or not is_name(thing[0]) or not is_filled_tuple(thing[1]):
        return False
    functions = thing[1]
    return all([is_function(function) for function in functions]) and firsts_ascend(functions)


def is_units(thing):
    """True if thing, any value, is units, else False."""
    if not isinstance(thing, tuple):
        return False
    return all([is_unit(unit) for unit in thing]) and firsts_ascend(thing)


def is_filled_tuple(thing):
    """True if thing is a tuple of at least one value."""
    return isinstance(thing, tuple) and len(thing) >= 1


def firsts_ascend(rows):
    """True if the first entries of the rows ascend, none twice."""
    return all([rows[k - 1][0] < rows[k][0] for k in range(1, len(rows))])


def is_call(line):
    """True if line begins as a call and is as long as one."""
    return isinstance(line, tuple) and len(line) == 4 and line[0] == "call"


def is_function_line(line, many):
    """True if line is one of a function, behind this many places."""
    if is_call(line):
        _, unit, function, places = line
        return is_name(unit) and is_name(function) and is_filled_tuple(places) and are_inputs(many, places)
    return line_fault(line, many) is None and line[0] != "mix"


def are_keeps(thing, many):
    """True if thing is the keeps of a function with this many places."""
    if not isinstance(thing, tuple):
        return False
    for keep in thing:
        if not is_pair(keep) or not is_input(many, keep[0]) or not is_span(keep[1]):
            return False
    return firsts_ascend(thing)


def functions_of(units):
    """The ascending tuple of the pairs of names of all functions."""
    return tuple(sorted([(unit[0], function[0]) for unit in units for function in unit[1]]))


def missing_in(units):
    """The ascending tuple of the pairs of names of what is called and not there."""
    called = [pair for unit in units for function in unit[1] for pair in called_by(function)]
    return tuple(sorted(set(called) - set(functions_of(units))))


def called_by(function):
    """The ascending tuple of the pairs of names that the function's lines call."""
    return tuple(sorted({(line[1], line[2]) for line in function[2] if line[0] == "call"}))


def row_named(rows, name):
    """The row that begins with the name, None if there is none."""
    for row in rows:
        if row[0] == name:
            return row
    return None


def with_row(rows, row):
    """The rows, ascending by their first entries, with the row added, or in the place of that with its first entry."""
    return by_names([own for own in rows if own[0] != row[0]] + [row])


def without_row(rows, name):
    """The rows without the one that begins with the name."""
    return tuple(row for row in rows if row[0] != name)


def by_names(rows):
    """The tuple of the rows, ascending by their first entries."""
    return tuple(sorted(rows, key=lambda row: row[0]))


def function_in(units, unit, function):
    """The function of this name in the unit of that name, a quadruple."""
    held = row_named(units, unit)
    ask(held is not None, "unit")
    found = row_named(held[1], function)
    ask(found is not None, "function")
    return found


def calls_in(units, unit, function):
    """The ascending tuple of the pairs of names that the lines of this function call."""
    return called_by(function_in(units, unit, function))
