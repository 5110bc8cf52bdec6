"""The checker of papers that show that a plain program loses something."""

from sevenruns.asking import ask_plain
from sevenruns.bends import bend_of, steps_up
from sevenruns.carrying import carried_of, counting_of
from sevenruns.corners import corner_span
from sevenruns.errors import InvalidPaper
from sevenruns.expanding import form_of, forms_of
from sevenruns.formfacts import is_first
from sevenruns.reckoning import NOUGHT
from sevenruns.runs import run_of
from sevenruns.things import has_word, is_box, is_input, is_point
from sevenruns.tolds import told_span

LENGTHS = {"bent": 3, "nought": 2, "box": 2}


def lets_loss(program, thing):
    """The word of the paper thing; InvalidPaper for what does not show that the program is not exact."""
    ask_plain(program)
    word = loss_fault(program, thing)
    if word is not None:
        raise InvalidPaper(word, -1)
    return thing[0]


def loss_fault(program, thing):
    """The word for what keeps thing from being such a paper, or None."""
    if not has_word(thing) or thing[0] not in LENGTHS or len(thing) != LENGTHS[thing[0]]:
        return "shape"
    if thing[0] == "bent":
        return bent_fault(program, thing[1], thing[2])
    if thing[0] == "nought":
        return nought_fault(program, thing[1])
    return box_fault(program, thing[1])


def bent_fault(program, point, which):
    """What is wrong with three runs, from the point on, that should bend in which."""
    if not is_point(program[0], point):
        return "point"
    if not is_input(program[0], which):
        return "which"
    bend = bend_of([run_of(program, three) for three in steps_up(point, which)])
    return "straight" if bend == NOUGHT else None


def nought_fault(program, line):
    """What is wrong with a line that should be nought."""
    if not is_input(len(program[1]), line) or line not in counting_of(program) or not carried_of(program)[line]:
        return "line"
    return "some" if forms_of(program)[line][1] else None


def box_fault(program, box):
    """What is wrong with a box on which the program should not be exact."""
    if not is_box(program[0], box):
        return "box"
    form = form_of(program)
    if not is_first(form):
        return "curved"
    return "exact" if told_span(program, box) == corner_span(form, box) else None
