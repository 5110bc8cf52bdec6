"""The greatest value of a kind piece by piece, as the far end of a side goes up."""

from sevenruns.asking import ask_input
from sevenruns.budgets import highest_lines, outer_lines, value_at
from sevenruns.kindthings import ask_first_kind, ask_kind_box
from sevenruns.reckoning import NOUGHT, divided, span_over, taken_off


def pieces_of(kind, box, which):
    """The tuple of triples (start, value, slope) of the greatest value as the far end of which goes up."""
    ask_kind_box(kind, box)
    ask_input(len(box), which)
    ask_first_kind(kind)
    start = box[which][0]
    highest = outer_lines(kind, box, which)[1]
    near = span_over([value_at(line, start) for line in highest])[1]
    # What is reached at the near end stays reached.
    lines = highest_lines(highest + [(NOUGHT, near)])
    reached = [k for k in range(len(lines)) if value_at(lines[k], start) == near]
    lines = lines[reached[-1]:]
    return tuple(piece_of(lines, k, start) for k in range(len(lines)))


def piece_of(lines, k, start):
    """The triple of line k of these highest lines, the first of them from start on."""
    if k > 0:
        (slope, number), (climb, other) = lines[k - 1], lines[k]
        start = divided(taken_off(number, other), taken_off(climb, slope))
    return (start, value_at(lines[k], start), lines[k][0])
