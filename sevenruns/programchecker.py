"""The checker of programs."""

from sevenruns.errors import InvalidPaper
from sevenruns.lines import program_fault


def lets_program(thing):
    """How many lines the program thing has; InvalidPaper for what is none."""
    fault = program_fault(thing)
    if fault is not None:
        raise InvalidPaper(fault[0], fault[1])
    return len(thing[1])
