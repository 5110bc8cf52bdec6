"""Papers that show that a plain program loses something on some box."""

from sevenruns.asking import ask
from sevenruns.bends import bend_paper
from sevenruns.boxes import point_box, with_side
from sevenruns.carrying import counting_lines, place_loads
from sevenruns.corners import corner_span
from sevenruns.expanding import forms_of, input_forms
from sevenruns.formfacts import ask_first
from sevenruns.formmaking import form_difference, form_negated, form_product, quotient_at, ratio_of
from sevenruns.formruns import form_at, standing_point, step_by
from sevenruns.reckoning import NOUGHT, ONE, added, divided, is_less, multiplied, negated, span_over, taken_off
from sevenruns.tolds import told_span
from sevenruns.verdicts import fault_of

UNIT = ((0, 1), (1, 1))


def loss_paper(program):
    """None if the program is exact, else a paper that lets_loss accepts."""
    fault = fault_of(program)
    if fault is None:
        return None
    losing = Losing(program)
    bend = bend_paper(losing.forms[-1])
    if bend is not None:
        return ("bent",) + bend
    line = losing.nought_line()
    if line is not None:
        return ("nought", line)
    return ("box", lossy_box(losing, fault, False))


def whole_box(program):
    """None if the program is exact, else a box of whole ends, at most two sides wide, on which it is not."""
    fault = fault_of(program)
    if fault is None:
        return None
    losing = Losing(program)
    ask_first(losing.forms[-1])
    ask(losing.nought_line() is None, "program")
    return lossy_box(losing, fault, True)


class Losing:
    """A plain program, what its places carry, and their forms."""

    def __init__(self, program):
        self.program = program
        self.size, self.lines = program
        self.carried, self.numbers = place_loads(program)
        self.counting = counting_lines(program, self.numbers)
        self.forms = input_forms(self.size) + list(forms_of(program))

    def factors(self):
        """The ascending list of the places that are read by a mul that counts, no read of it being void."""
        found = {}
        for k in self.counting:
            if self.lines[k][0] == "mul" and NOUGHT not in [self.numbers[place] for place in self.lines[k][1:]]:
                for place in self.lines[k][1:]:
                    found[place] = True
        return sorted(found)

    def factor_forms(self):
        """The list of the forms of these places."""
        return [self.forms[place] for place in self.factors()]

    def nought_line(self):
        """The first of these places that is a nought line, None if there is none."""
        for place in self.factors():
            if self.forms[place][1] == ():
                return place - self.size
        return None

    def copy_degree(self, which):
        """How many copies of which stand in one product of the form over copies, at most."""
        degrees = [1 if place == which else 0 for place in range(self.size)]
        for line in self.lines:
            if self.numbers[len(degrees)] is not None:
                degrees.append(0)
            elif line[0] == "mul":
                degrees.append(degrees[line[1]] + degrees[line[2]])
            else:
                degrees.append(max(degrees[line[1]], degrees[line[2]]))
        return degrees[-1]

    def loses_on(self, box):
        """True if the program, whose form is of first degree, is not exact on the box."""
        return told_span(self.program, box) != corner_span(self.forms[-1], box)


def lossy_box(losing, fault, whole):
    """A box on which the program with this fault is not exact, with one wide side; if whole, as in whole_box.

    Its form is of first degree, and no line of which loss_paper tells "nought" is there."""
    for which in range(losing.size):
        if losing.copy_degree(which) >= 2:
            return growing_box(losing, which)
    # No mul has an input in both reads, so the fault is at a sum; what is lost there on a
    # box is lost in the result, too, if all that it is multiplied by is one number there.
    return sum_box(losing, fault[1], whole)


def growing_box(losing, which):
    """The box for an input of which several copies are multiplied: the told span outgrows the true one."""
    box = point_box(standing_point(losing.size, losing.factor_forms()))
    far = ONE
    while not losing.loses_on(with_side(box, which, (NOUGHT, far))):
        far = added(far, far)
    return with_side(box, which, (NOUGHT, far))


def sum_box(losing, k, whole):
    """The box for line k, an add or sub both of whose reads are exact, but which is not."""
    word, one, other = losing.lines[k]
    forms = [losing.forms[one], form_negated(losing.forms[other]) if word == "sub" else losing.forms[other]]
    for which in losing.carried[one]:
        if which in losing.carried[other]:
            steps = [step_by(form, which) for form in forms]
            ratio = ratio_of(steps[0], steps[1])
            if ratio is None:
                return turning_box(losing, forms, which, whole)
            if is_less(ratio, NOUGHT):
                point = standing_point(losing.size, losing.factor_forms() + steps[:1])
                return with_side(point_box(point), which, UNIT)


def turning_box(losing, forms, which, whole):
    """The box for two forms whose steps by which are not one the other times a number.

    Where one step is above nought and the other one below, the told span is too wide."""
    beside, spread = turning_input(forms, which)
    point = standing_point(losing.size, losing.factor_forms() + [spread])
    slopes = [slopes_at(form, point, which, beside) for form in forms]
    box = point_box(point)
    number = opposing_number(slopes, whole)
    if number is not None:
        return with_side(with_side(box, beside, (number, number)), which, UNIT)
    sides = crossing_sides(slopes)
    return with_side(with_side(box, beside, sides[1]), which, sides[0])


def turning_input(forms, which):
    """The least input on which the ratio of both steps by which hangs, and a form, nought where it does not."""
    one, other = [step_by(form, which) for form in forms]
    beside = 0
    spread = turning_form(one, other, beside)
    # Were there no such input, the steps would be one the other times a number.
    while spread[1] == ():
        beside += 1
        spread = turning_form(one, other, beside)
    return beside, spread


def turning_form(one, other, beside):
    """The form, without the input beside, that is nought if the ratio of one and other does not hang on it."""
    first = form_product(form_at(one, beside, NOUGHT), step_by(other, beside))
    second = form_product(form_at(other, beside, NOUGHT), step_by(one, beside))
    return form_difference(first, second)


def slopes_at(form, point, which, beside):
    """The quotients of which, beside, and both in the form, the others of the point in their places."""
    rest = form
    for entry in range(form[0]):
        if entry not in (which, beside):
            rest = form_at(rest, entry, point[entry])
    both = tuple(sorted((which, beside)))
    return (quotient_at(rest, (which,)), quotient_at(rest, (beside,)), quotient_at(rest, both))


def opposing_number(slopes, whole):
    """A number for beside at which one step by which is above nought, the other one below.

    If it has to be whole, None where there may be none: where both steps go the same way."""
    (level, _, rise), (other, _, climb) = slopes
    turns = [divided(negated(base), slope) for base, slope in ((level, rise), (other, climb)) if slope != NOUGHT]
    low, high = span_over(turns)
    if is_less(NOUGHT, multiplied(rise, climb)):
        # Both go the same way, so they are opposed between their turns alone.
        return None if whole else divided(added(low, high), (2, 1))
    number = (floor_of(high) + 1, 1)
    worths = [added(base, multiplied(slope, number)) for base, slope in ((level, rise), (other, climb))]
    if is_less(multiplied(worths[0], worths[1]), NOUGHT):
        return number
    return (-floor_of(negated(low)) - 1, 1)


def crossing_sides(slopes):
    """Whole sides for which and beside if both steps go the same way.

    The side of beside goes up from the first turn. With the side of which wide and well
    placed, the form whose step turns first has one of its ends at both far ends alone, and
    the other form has not: no corner has both ends."""
    turns = [divided(negated(base), rise) for base, _, rise in slopes]
    centres = [divided(negated(base), rise) for _, base, rise in slopes]
    if is_less(turns[1], turns[0]):
        turns, centres = turns[::-1], centres[::-1]
    near = floor_of(turns[0])
    width = 1
    ends = far_ends(turns, centres, near, width)
    while not is_less((floor_of(ends[0]) + 1, 1), ends[1]):
        width *= 2
        ends = far_ends(turns, centres, near, width)
    far = floor_of(ends[0]) + 1
    return (((far - width, 1), (far, 1)), ((near, 1), (near + 1, 1)))


def far_ends(turns, centres, near, width):
    """For both forms the far end of a side of this width with which two opposite corners are alike."""
    shifts = [taken_off(turn, (near, 1)) for turn in turns]
    return [added(multiplied((width, 1), shift), centre) for shift, centre in zip(shifts, centres)]


def floor_of(quotient):
    """The greatest integer that is not above the quotient."""
    return quotient[0] // quotient[1]
