"""What a change of units makes anew, and what stays."""

from sevenruns.asking import ask
from sevenruns.unitkinds import function_kind, kind_rows, kind_table
from sevenruns.unitlinks import ask_linked, function_table, ordered_pairs
from sevenruns.unitthings import called_by, is_units


def made_anew(units, other):
    """The ascending tuple of the pairs (unit, function) that are made anew if units are changed to other."""
    ask(is_units(other), "other")
    ask_linked(units)
    ask_linked(other)
    return changed_kinds(units, kind_table(units), other)[1]


def kinds_after(units, kinds, other):
    """The kinds of other, kinds being those of units; only what is made anew is reckoned again."""
    ask(is_units(other), "other")
    ask_linked(other)
    before = {(unit, function): kind for unit, function, kind in kinds}
    return kind_rows(changed_kinds(units, before, other)[0])


def changed_kinds(units, before, other):
    """The table of the kinds of other, and the ascending tuple of what is made anew; before is the table of units."""
    functions, changed = function_table(units), function_table(other)
    after, anew = {}, []
    for pair in ordered_pairs(other):
        own = changed[pair]
        if is_same(functions.get(pair), own) and not is_call_changed(own, before, after):
            after[pair] = before[pair]
        else:
            after[pair] = function_kind(own, after)
            anew.append(pair)
    return after, tuple(sorted(anew))


def is_same(function, other):
    """True if there is a function, with the lines and as many inputs as the other one."""
    return function is not None and function[2] == other[2] and len(function[1]) == len(other[1])


def is_call_changed(function, before, after):
    """True if what the function calls came, went or has another kind; the tables have the kinds of what is there."""
    return any([(callee in before) != (callee in after) or before.get(callee) != after.get(callee)
                for callee in called_by(function)])
