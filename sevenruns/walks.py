"""A walk over the lines of a plain program that count, as (G5) asks it.

Forms are made only as far as the walk has come: as long as no line has a fault
they are of first degree, whatever degrees the other lines have."""

from sevenruns.carrying import counting_lines, place_loads
from sevenruns.expanding import input_forms, line_form
from sevenruns.formmaking import form_negated, number_form
from sevenruns.lines import reads_of
from sevenruns.linked import factor_of, part_form, parts_in
from sevenruns.reckoning import NOUGHT, is_less


class Walk:
    """What is known of a program's places; the forms of the lines that were passed."""

    def __init__(self, program):
        self.size = program[0]
        self.lines = program[1]
        self.carried, self.numbers = place_loads(program)
        self.counting = counting_lines(program, self.numbers)
        self.forms = {which: form for which, form in enumerate(input_forms(self.size))}

    def shared(self, k):
        """The list of the inputs that both reads of line k carry."""
        reads = reads_of(self.lines[k])
        if not reads:
            return []
        return [which for which in self.carried[reads[0]] if which in self.carried[reads[1]]]

    def read_forms(self, k):
        """The forms of both reads of the add or sub k, the second of a sub with its sign changed."""
        word, one, other = self.lines[k]
        second = self.forms[other]
        return self.forms[one], form_negated(second) if word == "sub" else second

    def fault_at(self, k):
        """What (G5) does not let stand at line k, a pair of a word and an input, or None."""
        shared = self.shared(k)
        if self.lines[k][0] == "mul":
            return ("mul", shared[0]) if shared else None
        for which in shared:
            one, other = self.read_forms(k)
            lot = part_with(one, which)
            if lot != part_with(other, which) or shared_factor(one, other, lot) is None:
                return ("sum", which)
        return None

    def rows_at(self, k):
        """The list of the pairs (lot, factor) of the linked parts that both reads of line k share."""
        shared = self.shared(k)
        # A mul or num without a fault shares nothing.
        if not shared:
            return []
        one, other = self.read_forms(k)
        lots = sorted({part_with(one, which) for which in shared})
        return [(lot, shared_factor(one, other, lot)) for lot in lots]

    def go_past(self, k):
        """Makes the form of line k, which has no fault."""
        place = self.size + k
        if self.numbers[place] is not None:
            self.forms[place] = number_form(self.size, self.numbers[place])
        else:
            read = [self.forms[entry] for entry in reads_of(self.lines[k])]
            self.forms[place] = line_form(self.size, self.lines[k], read)


def part_with(form, which):
    """The linked part with the input which, () if the form does not hang on it."""
    for lot in parts_in(form):
        if which in lot:
            return lot
    return ()


def shared_factor(one, other, lot):
    """The factor above nought between the parts lot of both forms, None if there is none."""
    factor = factor_of(part_form(one, lot), part_form(other, lot))
    return factor if factor is not None and is_less(NOUGHT, factor) else None
