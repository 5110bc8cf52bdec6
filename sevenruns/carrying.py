"""What the lines of a plain program carry, their numbers, and which of them count."""

from sevenruns.asking import ask_plain
from sevenruns.lines import reads_of
from sevenruns.reckoning import NOUGHT
from sevenruns.runs import line_value


def carried_of(program):
    """The tuple of the lots that the lines carry."""
    ask_plain(program)
    return tuple(place_loads(program)[0][program[0]:])


def numbers_of(program):
    """The tuple of the lines' numbers, None for a line that carries something."""
    ask_plain(program)
    return tuple(place_loads(program)[1][program[0]:])


def counting_of(program):
    """The lot of the lines that count, line k told as k."""
    ask_plain(program)
    return counting_lines(program, place_loads(program)[1])


def place_loads(program):
    """Two lists, for all places: what they carry, and their numbers, None without one."""
    size, lines = program
    carried = [(which,) for which in range(size)]
    numbers = [None for _ in range(size)]
    for line in lines:
        reads = reads_of(line)
        if line[0] == "mul" and is_void_read(reads, numbers):
            lot, number = (), NOUGHT
        else:
            lot = tuple(sorted({which for place in reads for which in carried[place]}))
            number = None if lot else line_value(line, [numbers[place] for place in reads])
        carried.append(lot)
        numbers.append(number)
    return carried, numbers


def is_void_read(reads, numbers):
    """True if one of the places that are read is void."""
    return any([numbers[place] == NOUGHT for place in reads])


def counting_lines(program, numbers):
    """The lot of the lines that count, numbers being those of all places."""
    size, lines = program
    counts = [False for _ in lines]
    counts[-1] = True
    for k in range(len(lines) - 1, -1, -1):
        if counts[k]:
            for place in counted_reads(lines[k], numbers):
                if place >= size:
                    counts[place - size] = True
    return tuple(k for k in range(len(lines)) if counts[k])


def counted_reads(line, numbers):
    """The places that count because a line that counts reads them."""
    if line[0] != "mul":
        return reads_of(line)
    _, one, other = line
    # A read of a mul matters only as long as the other one can let it through.
    return [place for place, beside in ((one, other), (other, one)) if numbers[beside] != NOUGHT]
