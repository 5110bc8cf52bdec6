"""Programs run at a point."""

from sevenruns.asking import ask_point
from sevenruns.lines import reads_of
from sevenruns.reckoning import added, multiplied, taken_off


def run_of(program, point):
    """The value of the result at point."""
    return run_lines(program, point)[-1]


def run_lines(program, point):
    """The tuple of the values of all lines at point."""
    ask_point(program[0], point)
    return tuple(place_values(program, point)[program[0]:])


def place_values(program, point):
    """The list of the values of all places, the inputs first."""
    values = list(point)
    for line in program[1]:
        values.append(line_value(line, [values[place] for place in reads_of(line)]))
    return values


def line_value(line, worths):
    """The value of a line whose reads have these values."""
    if line[0] == "num":
        return line[1]
    if line[0] == "mix":
        return mix_value(line[2], worths)
    if line[0] == "add":
        return added(worths[0], worths[1])
    if line[0] == "sub":
        return taken_off(worths[0], worths[1])
    return multiplied(worths[0], worths[1])


def mix_value(numbers, worths):
    """All numbers of a mix, each times its product, added."""
    rest = list(numbers)
    for worth in reversed(worths):
        rest = with_last(rest, worth)
    return rest[0]


def with_last(numbers, worth):
    """The numbers of a mix that is left if its last read has the value worth."""
    # The products with the last read are the later half of the numbers.
    half = len(numbers) // 2
    return [added(numbers[s], multiplied(worth, numbers[s + half])) for s in range(half)]
