"""The form over copies."""

from sevenruns.asking import ask
from sevenruns.expanding import form_of
from sevenruns.unfolding import unfolded


def spread_of(program):
    """The form over copies; its size is how many there are."""
    copies, wide = unfolded(program)
    ask(len(copies) >= 1, "program")
    return form_of(wide)
