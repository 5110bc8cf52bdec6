"""Plain programs as objects that are judged."""

from sevenruns.asking import ask
from sevenruns.exactpapers import exact_paper
from sevenruns.losspapers import loss_paper
from sevenruns.programs import is_plain, is_program
from sevenruns.tolds import told_span
from sevenruns.trues import lost_on, true_span
from sevenruns.verdicts import fault_of, is_exact


class Judge:
    """A plain program, to be judged."""

    def __init__(self, program):
        ask(is_program(program) and is_plain(program), "program")
        self._program = program

    def told(self, box):
        """The told span of the result."""
        return told_span(self._program, box)

    def true(self, box):
        """The true span of the result."""
        return true_span(self._program, box)

    def lost(self, box):
        """What is lost on the box, at the least and at the greatest end."""
        return lost_on(self._program, box)

    def exact(self):
        """True if the program is exact, else False."""
        return is_exact(self._program)

    def fault(self):
        """None if the program is exact, else what shows where it is not."""
        return fault_of(self._program)

    def paper(self):
        """The paper that shows that the program is exact, or that it is not."""
        return exact_paper(self._program) if self.exact() else loss_paper(self._program)

    def __eq__(self, other):
        return isinstance(other, Judge) and self._program == other._program
