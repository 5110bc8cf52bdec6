"""The kinds of functions in units, and of their places."""

from sevenruns.kindcalls import kind_called
from sevenruns.kindsums import together
from sevenruns.parts import input_part
from sevenruns.unitlinks import ask_linked, function_table, ordered_pairs
from sevenruns.unitthings import called_by, function_in


def kinds_of(units):
    """The ascending tuple of the triples (unit, function, kind) of all functions, kind being None for an open one."""
    ask_linked(units)
    return kind_rows(kind_table(units))


def place_kinds(units, unit, function):
    """The tuple of the kinds of all places of the function, the inputs first; None without one."""
    own = function_in(units, unit, function)
    ask_linked(units)
    return tuple(kinds_in(own, kind_table(units)))


def kind_rows(kinds):
    """The ascending tuple of the triples that a table of kinds tells."""
    return tuple((*pair, kinds[pair]) for pair in sorted(kinds))


def kind_table(units):
    """The dict of the kinds of all functions by their pairs of names, for units that are linked."""
    functions = function_table(units)
    kinds = {}
    for pair in ordered_pairs(units):
        kinds[pair] = function_kind(functions[pair], kinds)
    return kinds


def function_kind(function, kinds):
    """The kind of a function, None if it is open; kinds has those of the functions there that it calls."""
    # What is missing has no kind, and what is open has none either.
    if any([kinds.get(callee) is None for callee in called_by(function)]):
        return None
    return kinds_in(function, kinds)[-1]


def kinds_in(function, kinds):
    """The list of the kinds of all places of the function."""
    _, box, lines, _ = function
    found = [("first", *input_part(which)) for which in range(len(box))]
    for line in lines:
        found.append(line_kind(line, found, kinds))
    return found


def line_kind(line, places, kinds):
    """The kind of a line behind places of these kinds, None if it has none."""
    if line[0] == "num":
        return ("bare", line[1])
    if line[0] == "call":
        callee = kinds.get((line[1], line[2]))
        handed = [places[place] for place in line[3]]
        return None if callee is None or None in handed else kind_called(callee, handed)
    one, other = places[line[1]], places[line[2]]
    return None if one is None or other is None else together(line[0], one, other)
