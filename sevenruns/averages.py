"""Averages: programs that are an average of their form's parts at choices of copies."""

from sevenruns.asking import ask
from sevenruns.errors import InvalidPaper
from sevenruns.expanding import form_of
from sevenruns.formmaking import gathered, number_of, quotient_at
from sevenruns.linked import linked_parts, part_form
from sevenruns.reckoning import NOUGHT, ONE, added, divided, is_less, multiplied
from sevenruns.things import is_lot, is_pair, is_quotient
from sevenruns.unfolding import unfolded


def average_paper(program):
    """None if the program is not exact, else the tuple of pairs of a linked part and its choices."""
    averaged = Averaged(program)
    thing = tuple((lot, averaged.choices_of(lot)) for lot in averaged.parts)
    if averaged.fault_in(thing) is not None or averaged.stated(thing) != averaged.spread:
        return None
    return thing


def is_average(program):
    """False if average_paper(program) is None, else True."""
    return average_paper(program) is not None


def lets_average(program, thing):
    """How many choices the paper thing has in all; InvalidPaper for what does not state the program."""
    averaged = Averaged(program)
    fault = averaged.fault_in(thing)
    if fault is None and averaged.stated(thing) != averaged.spread:
        fault = ("other", -1)
    if fault is not None:
        raise InvalidPaper(fault[0], fault[1])
    return sum([len(choices) for _, choices in thing])


def average_form(program, thing):
    """The form over copies that thing states."""
    averaged = Averaged(program)
    ask(len(averaged.copies) >= 1, "program")
    ask(averaged.fault_in(thing) is None, "thing")
    return averaged.stated(thing)


class Averaged:
    """A program's form, its linked parts, its copies, and its form over copies, of size 0 without any."""

    def __init__(self, program):
        self.form = form_of(program)
        self.parts = linked_parts(self.form)
        ask(all([quotient_at(self.form, lot) != NOUGHT for lot in self.parts]), "program")
        self.copies, wide = unfolded(program)
        self.spread = form_of(wide)

    def is_choice(self, lot, chosen):
        """True if chosen is an ascending tuple of one copy of each input in the lot, and no others."""
        if not is_lot(len(self.copies), chosen):
            return False
        return sorted([self.copies[copy] for copy in chosen]) == list(lot)

    def choices_of(self, lot):
        """The choices of copies for the lot that the form over copies has, with their weights."""
        whole = quotient_at(self.form, lot)
        return tuple((bundle, divided(own, whole)) for bundle, own in self.spread[1] if self.is_choice(lot, bundle))

    def are_choices(self, lot, thing):
        """True if thing is choices for the lot, with weights above nought."""
        if not isinstance(thing, tuple):
            return False
        for row in thing:
            if not is_pair(row) or not self.is_choice(lot, row[0]):
                return False
            if not is_quotient(row[1]) or not is_less(NOUGHT, row[1]):
                return False
        return all([thing[k - 1][0] < thing[k][0] for k in range(1, len(thing))])

    def fault_in(self, thing):
        """The first word and number that tell why thing is no paper, what it states left aside, or None."""
        if not isinstance(thing, tuple):
            return ("shape", -1)
        for k in range(len(thing)):
            if k >= len(self.parts) or not is_pair(thing[k]):
                return ("part", k)
            lot, choices = thing[k]
            if not is_lot(self.form[0], lot) or lot != self.parts[k]:
                return ("part", k)
            if not self.are_choices(lot, choices):
                return ("choices", k)
            if weight_of(choices) != ONE:
                return ("weights", k)
        return ("missing", -1) if len(thing) < len(self.parts) else None

    def stated(self, thing):
        """The form over copies that thing, which has no fault, states."""
        terms = [((), number_of(self.form))]
        for lot, choices in thing:
            for chosen, weight in choices:
                copy_at = {self.copies[copy]: copy for copy in chosen}
                for bundle, own in part_form(self.form, lot)[1]:
                    terms.append((tuple(sorted([copy_at[which] for which in bundle])), multiplied(own, weight)))
        return gathered(len(self.copies), terms)


def weight_of(choices):
    """The weights of the choices, added."""
    total = NOUGHT
    for _, weight in choices:
        total = added(total, weight)
    return total
