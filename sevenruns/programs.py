"""Programs: what they are, their breadth, the degrees of their lines."""

from sevenruns.lines import program_fault, reads_of
from sevenruns.reckoning import NOUGHT


def is_program(thing):
    """True if thing, any value, is a program, else False."""
    return program_fault(thing) is None


def is_plain(program):
    """True if program has no mix, else False."""
    return all([line[0] != "mix" for line in program[1]])


def breadth_of(program):
    """The breadth of the program, 0 if all lines are num."""
    return max([len(reads_of(line)) for line in program[1]])


def degrees_of(program):
    """The tuple of the degrees of the lines."""
    size, lines = program
    degrees = [1 for _ in range(size)]
    for line in lines:
        degrees.append(line_degree(line, degrees))
    return tuple(degrees[size:])


def line_degree(line, degrees):
    """The degree of a line, degrees being those of the places before it."""
    worths = [degrees[place] for place in reads_of(line)]
    if line[0] == "num":
        return 0
    if line[0] == "mul":
        return worths[0] + worths[1]
    if line[0] == "mix":
        return mix_degree(worths, line[2])
    return max(worths)


def mix_degree(worths, numbers):
    """The greatest degree of a product whose number is not nought, 0 if there is none."""
    sums = [0]
    for worth in worths:
        sums = sums + [low + worth for low in sums]
    return max([sums[s] for s in range(len(numbers)) if numbers[s] != NOUGHT], default=0)
