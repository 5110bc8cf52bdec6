"""Functions written out as plain programs, without calls."""

from sevenruns.lines import reads_of
from sevenruns.unfolding import with_reads
from sevenruns.unitlinks import ask_linked, ask_not_open, call_table, function_table, ordered_pairs, reached_from
from sevenruns.unitthings import function_in


def written_program(units, unit, function):
    """A plain program with the function's value, each call written out in its place."""
    own = function_in(units, unit, function)
    ask_linked(units)
    ask_not_open(units, unit, function)
    functions = function_table(units)
    needed = reached_from(call_table(units), (unit, function))
    written = {}
    for pair in ordered_pairs(units):
        if pair in needed:
            written[pair] = written_lines(functions[pair], written)
    return (len(own[1]), written_lines(own, written))


def written_lines(function, written):
    """The tuple of the lines of a function without calls; written has those of what it calls."""
    size = len(function[1])
    # Where the places of the function stand among those of the lines written.
    places = list(range(size))
    lines = []
    for line in function[2]:
        if line[0] == "call":
            handed = [places[place] for place in line[3]]
            lines.extend(moved_lines(written[(line[1], line[2])], handed, size + len(lines)))
        else:
            lines.append(with_reads(line, [places[place] for place in reads_of(line)]))
        places.append(size + len(lines) - 1)
    return tuple(lines)


def moved_lines(lines, handed, start):
    """The list of the lines with the places handed for the inputs, the first line standing at start."""
    places = handed + list(range(start, start + len(lines)))
    return [with_reads(line, [places[place] for place in reads_of(line)]) for line in lines]
