"""Codes of functions of units, and of their keeps."""

from sevenruns.asking import ask
from sevenruns.coding import is_whole_box, made_code
from sevenruns.errors import Broken
from sevenruns.kindthings import ask_first_kind
from sevenruns.machine import run_code
from sevenruns.sites import word_at
from sevenruns.spans import holds
from sevenruns.unitkinds import kind_table, kinds_in
from sevenruns.unitlinks import ask_linked, ask_not_open
from sevenruns.unitthings import function_in


def unit_code(units, unit, function):
    """The pair of the function's code, and a triple (place, span, code) for each keep that may not hold."""
    own = function_in(units, unit, function)
    ask_linked(units)
    ask_not_open(units, unit, function)
    _, box, _, keeps = own
    ask(is_whole_box(len(box), box), "function")
    kinds = kinds_in(own, kind_table(units))
    ask_first_kind(kinds[-1])
    for place, _ in keeps:
        ask_first_kind(kinds[place])
    doubtful = [(place, span) for place, span in keeps if word_at(kinds[place], box, span) != "always"]
    return (made_code(kinds[-1], box), tuple((place, span, made_code(kinds[place], box)) for place, span in doubtful))


def run_unit_code(made, point):
    """The value of such a code at the point; Broken for the first keep that does not hold."""
    code, keeps = made
    for place, span, beside in keeps:
        if not holds(span, run_code(beside, point)):
            raise Broken(place)
    return run_code(code, point)
