"""Programs written out, and the copies of their inputs."""

from sevenruns.asking import ask, ask_point
from sevenruns.lines import reads_of
from sevenruns.plaintexts import quotient_word
from sevenruns.reckoning import ONE, added, taken_off
from sevenruns.runs import run_of
from sevenruns.things import is_input, is_point
from sevenruns.unfolding import term_lines, unfolded

SIGNS = {"add": " + ", "sub": " - ", "mul": " * "}


def copies_of(program):
    """The tuple of the inputs of the copies, from the left."""
    return unfolded(program)[0]


def written_line(program):
    """The term as a string."""
    size, lines = program
    texts = {which: f"x{which}" for which in range(size)}
    # Lines that the term does not have may be too long to be written.
    for k in term_lines(program):
        texts[size + k] = line_text(lines[k], [texts[place] for place in reads_of(lines[k])])
    return texts[size + len(lines) - 1]


def line_text(line, read):
    """A line as a string, read being the strings of what it reads."""
    if line[0] == "num":
        return quotient_word(line[1])
    if line[0] == "mix":
        numbers = " ".join([quotient_word(number) for number in line[2]])
        return "mix(" + "; ".join([numbers] + read) + ")"
    return "(" + read[0] + SIGNS[line[0]] + read[1] + ")"


def run_copies(program, numbers):
    """The term's value if each copy has a quotient of its own."""
    copies, wide = unfolded(program)
    ask(is_point(len(copies), numbers), "numbers")
    return run_of(wide, numbers)


def copy_change(program, point, copy):
    """By how much the value changes as this copy alone goes one up from the point's quotients."""
    ask_point(program[0], point)
    copies, wide = unfolded(program)
    ask(is_input(len(copies), copy), "copy")
    numbers = [point[which] for which in copies]
    before = run_of(wide, tuple(numbers))
    numbers[copy] = added(numbers[copy], ONE)
    return taken_off(run_of(wide, tuple(numbers)), before)
