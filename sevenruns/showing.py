"""Points that show whether checks hold, and their checker."""

from sevenruns.asking import ask, ask_box
from sevenruns.boxes import in_box
from sevenruns.errors import InvalidPaper
from sevenruns.judging import ask_judged, check_holds, is_check
from sevenruns.kindends import ends_by
from sevenruns.kindthings import value_by
from sevenruns.reaching import point_between
from sevenruns.runs import run_of
from sevenruns.things import is_pair, is_point


def shown(kind, box, check):
    """A point of the box at which the check holds of the kind's value, and one at which it does not; None for none."""
    ask_judged(kind, box, check)
    ends = ends_by(kind, box)
    holding = [check_holds(check, value_by(kind, corner)) for corner in ends]
    yes = ends[holding.index(True)] if True in holding else point_inside(kind, ends, check)
    # What a check holds of lies together, so if it holds at both ends it holds between them.
    return (yes, ends[holding.index(False)] if False in holding else None)


def point_inside(kind, ends, check):
    """A point at which the check, which holds at neither end, holds of the kind's value; None if there is none."""
    if check[0] == "inside":
        # Either both of its ends are between those of the values, or it holds of none.
        return point_between(kind, ends, check[1][0])
    return point_between(kind, ends, check[1]) if check[0] == "is" else None


def lets_shown(program, box, check, thing):
    """The program's results at both points of the paper thing, None for None; InvalidPaper for what shows nothing."""
    ask_box(program[0], box)
    ask(is_check(check), "check")
    if not is_pair(thing):
        raise InvalidPaper("shape", -1)
    if thing[0] is None and thing[1] is None:
        raise InvalidPaper("empty", -1)
    results = []
    for word, right, point in (("yes", True, thing[0]), ("no", False, thing[1])):
        if point is None:
            results.append(None)
        elif is_point(program[0], point) and in_box(box, point) and check_holds(check, run_of(program, point)) == right:
            results.append(run_of(program, point))
        else:
            raise InvalidPaper(word, -1)
    return tuple(results)
