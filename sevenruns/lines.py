"""Lines of programs: what keeps any value from being one, and what a line reads."""

from sevenruns.things import are_inputs, has_word, is_input, is_integer, is_pair, is_quotient

LENGTHS = {"num": 2, "add": 3, "sub": 3, "mul": 3, "mix": 3}
MOST_READS = 8


def has_line_shape(line):
    """True if line begins with a line's word and is as long as a line with it."""
    return has_word(line) and line[0] in LENGTHS and len(line) == LENGTHS[line[0]]


def mix_fault(reads, numbers, many):
    """The word for what is wrong in a mix behind this many places, or None."""
    if not are_inputs(many, reads) or not 1 <= len(reads) <= MOST_READS:
        return "reads"
    if not isinstance(numbers, tuple) or len(numbers) != 1 << len(reads):
        return "numbers"
    if not all([is_quotient(number) for number in numbers]):
        return "numbers"
    return None


def line_fault(line, many):
    """The word for what keeps line from standing behind this many places, or None."""
    if not has_line_shape(line):
        return "shape"
    if line[0] == "num":
        return None if is_quotient(line[1]) else "number"
    if line[0] == "mix":
        return mix_fault(line[1], line[2], many)
    return None if is_input(many, line[1]) and is_input(many, line[2]) else "place"


def program_fault(thing):
    """The first word and number that tell why thing is no program, or None."""
    if not is_pair(thing):
        return ("shape", -1)
    size, lines = thing
    if not is_integer(size) or size < 1:
        return ("size", -1)
    if not isinstance(lines, tuple) or len(lines) == 0:
        return ("lines", -1)
    for k in range(len(lines)):
        word = line_fault(lines[k], size + k)
        if word is not None:
            return (word, k)
    return None


def reads_of(line):
    """The tuple of the places that a line of a program reads."""
    if line[0] == "num":
        return ()
    if line[0] == "mix":
        return line[1]
    return (line[1], line[2])
