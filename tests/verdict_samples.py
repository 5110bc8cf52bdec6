"""Plain programs written by hand, with what is known of them, and a slow way to judge any small one."""

from sevenruns.carrying import carried_of, counting_of
from sevenruns.copies import copies_of
from sevenruns.expanding import form_of, forms_of, input_forms
from sevenruns.formfacts import is_first
from sevenruns.forms import form_from, form_scaled
from sevenruns.formruns import step_of
from sevenruns.linked import linked_parts, part_of
from sevenruns.spreads import spread_of
from tests.samples import HIDDEN, MIXING, Q0, Q1, Q2, SPREAD, THRICE, TIGHT, frac, quot

HALF = ("num", (1, 2))
MINUS = ("num", (-1, 1))

# (program, exact_paper of it).
EXACT = (
    (TIGHT, ()),
    (THRICE, ((3, (0, 1), (1, 3)),)),
    ((1, (("num", Q0),)), ()),
    ((1, (("num", Q2), ("mul", 1, 0), ("add", 2, 1))), ()),
    ((1, (("add", 0, 0),)), ((0, (0,), Q1),)),
    ((1, (("add", 0, 0), ("add", 0, 1))), ((0, (0,), Q1), (1, (0,), (1, 2)))),
    ((1, (("add", 0, 0), ("add", 1, 0))), ((0, (0,), Q1), (1, (0,), Q2))),
    # x0 less its half with the sign changed.
    ((1, (("num", (-1, 2)), ("mul", 1, 0), ("sub", 0, 2))), ((2, (0,), Q2),)),
    # Two linked parts that both reads share, with unlike factors, and one that just one of them has.
    ((4, (("mul", 0, 1), ("add", 4, 2), ("num", Q2), ("mul", 6, 2), ("add", 7, 4), ("add", 8, 3), ("add", 5, 9))),
     ((6, (0, 1), Q1), (6, (2,), (1, 2)))),
    # 1 + x0 and x0 - 1: numbers do not matter.
    ((1, (("num", Q1), ("add", 0, 1), ("sub", 0, 1), ("add", 2, 3))), ((3, (0,), Q1),)),
    # A linked part of a product that was shared before.
    ((3, (("add", 0, 1), ("mul", 3, 2), ("num", (3, 1)), ("mul", 5, 4), ("add", 4, 6))), ((4, (0, 1, 2), (1, 3)),)),
    # The square is not read by what counts, nor is what a void read holds back.
    ((1, (("mul", 0, 0), ("add", 0, 0))), ((1, (0,), Q1),)),
    ((1, (("num", Q0), ("mul", 0, 0), ("mul", 1, 2))), ()),
    ((2, (("num", Q0), ("sub", 0, 0), ("mul", 3, 2), ("add", 4, 1))), ()),
    ((1, tuple(("mul", k, k) for k in range(39)) + (("add", 0, 0),)), ((39, (0,), Q1),)),
    (HIDDEN, ()),
    # Nums that make a void one, and a sum beside it.
    ((2, (("num", Q1), ("sub", 2, 2), ("mul", 3, 0), ("add", 4, 1))), ()),
)

# (program, fault_of it).
FAULTY = (
    (MIXING, ("sum", 2, 0)),
    (SPREAD, ("sum", 2, 0)),
    ((1, (("sub", 0, 0),)), ("sum", 0, 0)),
    ((1, (("mul", 0, 0),)), ("mul", 0, 0)),
    ((3, (("add", 1, 2), ("add", 0, 2), ("mul", 3, 4))), ("mul", 2, 2)),
    ((3, (("mul", 1, 2), ("mul", 2, 1), ("mul", 3, 4))), ("mul", 2, 1)),
    # The first line that counts is told, though a later one is faulty, too.
    ((2, (("mul", 1, 1), ("sub", 0, 0), ("add", 2, 3))), ("mul", 0, 1)),
    ((2, (("sub", 0, 0), ("mul", 1, 1), ("add", 2, 3))), ("sum", 0, 0)),
    # A line that does not count is not told.
    ((2, (("mul", 1, 1), ("sub", 0, 0))), ("sum", 1, 0)),
    # Parts of one lot that are no multiples: x0 + x0 x1 beside x0 x1; x0 + x1 + x0 x1 beside x0 + 2 x1 + x0 x1.
    ((2, (("mul", 0, 1), ("add", 2, 0))), ("sum", 1, 0)),
    # x1 beside x1 (1 + x0): the terms of x1 alone are alike, but not the parts.
    ((2, (("num", Q1), ("add", 0, 2), ("mul", 3, 1), ("add", 1, 4))), ("sum", 3, 1)),
    ((2, (("num", Q1), ("add", 0, 2), ("mul", 3, 1), ("add", 4, 1))), ("sum", 3, 1)),
    # Of two parts the second one has another sign: (x0 + x1) + (x0 - x1).
    ((2, (("add", 0, 1), ("sub", 0, 1), ("add", 2, 3))), ("sum", 2, 1)),
    ((2, (("add", 0, 1), ("sub", 0, 1), ("sub", 2, 3))), ("sum", 2, 0)),
    # A line that is nought: x0 - x0, in an exact program it would not count.
    ((2, (MINUS, ("mul", 2, 0), ("add", 3, 0), ("mul", 4, 1))), ("sum", 2, 0)),
    ((2, (("sub", 0, 0), ("mul", 2, 1))), ("sum", 0, 0)),
    # Degrees have no limit: the first square is at fault.
    ((1, tuple(("mul", k, k) for k in range(40))), ("mul", 0, 0)),
    ((2, (HALF, ("mul", 0, 1), ("mul", 2, 3), ("sub", 3, 4))), ("sum", 3, 0)),
)


def judged_slowly(program):
    """The fault, or None, and the rows of the paper, line by line out of all forms, as (G5) says it."""
    size, lines = program
    carried = [(which,) for which in range(size)] + list(carried_of(program))
    forms = input_forms(size) + list(forms_of(program))
    rows = []
    for k in counting_of(program):
        if lines[k][0] == "num":
            continue
        word, one, other = lines[k]
        shared = [which for which in range(size) if which in carried[one] and which in carried[other]]
        if word == "mul":
            if shared:
                return ("mul", k, shared[0]), rows
            continue
        first, second = forms[one], form_scaled(forms[other], (-1, 1) if word == "sub" else Q1)
        for which in shared:
            row = shared_row(first, second, which)
            if row is None:
                return ("sum", k, which), rows
            if (k, *row) not in rows:
                rows.append((k, *row))
    return None, sorted(rows)


def shared_row(first, second, which):
    """The pair of the linked part with this input and its factor above nought, or None."""
    lots = [lot for lot in linked_parts(first) if which in lot and lot in linked_parts(second)]
    if not lots:
        return None
    one, other = part_of(first, lots[0]), part_of(second, lots[0])
    factor = quot(frac(one[1][0][1]) / frac(other[1][0][1]))
    return (lots[0], factor) if factor[0] > 0 and form_scaled(other, factor) == one else None


def exact_by_shares(program):
    """True if the program is exact, by (G3): out of the form over copies alone."""
    form, copies = form_of(program), copies_of(program)
    if not is_first(form):
        return False
    if not copies:
        return True
    spread = spread_of(program)
    for copy, which in enumerate(copies):
        step = step_of(spread, copy)
        if step[1] and share_of(step, copies, step_of(form, which)) is None:
            return False
    return True


def share_of(step, copies, whole):
    """The share above nought of a copy with this step, whole being the step by its input, or None."""
    at_inputs = form_from(whole[0], *((tuple(copies[copy] for copy in bundle), own) for bundle, own in step[1]))
    if not whole[1] or not at_inputs[1]:
        return None
    share = quot(frac(at_inputs[1][0][1]) / frac(whole[1][0][1]))
    return share if share[0] > 0 and form_scaled(whole, share) == at_inputs else None
