"""Points of a box at which a kind has a given value."""

from sevenruns.asking import ask_quotient
from sevenruns.kindends import ends_by
from sevenruns.kindthings import ask_kind_box, value_by
from sevenruns.reckoning import added, divided, is_less, multiplied, taken_off


def point_with(kind, box, quotient):
    """A point of the box, at most one entry no end of its side, with this value of the kind; None if there is none."""
    ask_kind_box(kind, box)
    ask_quotient(quotient)
    return point_between(kind, ends_by(kind, box), quotient)


def point_between(kind, ends, quotient):
    """As point_with, ends being a corner with the least value and one with the greatest."""
    point, goal = ends
    value = value_by(kind, point)
    if is_less(quotient, value) or is_less(value_by(kind, goal), quotient):
        return None
    # From one corner to the other, entry by entry, the value passes the quotient in some step.
    for which in range(len(goal)):
        moved = point[:which] + (goal[which],) + point[which + 1:]
        reached = value_by(kind, moved)
        if not is_less(reached, quotient) and reached != value:
            part = divided(taken_off(quotient, value), taken_off(reached, value))
            entry = added(point[which], multiplied(part, taken_off(goal[which], point[which])))
            return point[:which] + (entry,) + point[which + 1:]
        point, value = moved, reached
    return point
