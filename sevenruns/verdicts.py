"""The verdict on a plain program: exact, or where it is not."""

from sevenruns.asking import ask_plain
from sevenruns.walks import Walk


def fault_of(program):
    """None if the program is exact, else the triple of a word, a line and an input that show where not."""
    ask_plain(program)
    walk = Walk(program)
    for k in walk.counting:
        fault = walk.fault_at(k)
        if fault is not None:
            return (fault[0], k, fault[1])
        walk.go_past(k)
    return None


def is_exact(program):
    """True if the program is exact, else False."""
    return fault_of(program) is None
