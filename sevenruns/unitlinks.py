"""How functions of units call one another: rings, misfits, a sequence, what is missing."""

from sevenruns.errors import Misfit, Missing, Ringed
from sevenruns.unitthings import called_by


def rings_in(units):
    """The ascending tuple of the pairs (unit, function) that call themselves, over others or not."""
    calls = call_table(units)
    return tuple(pair for pair in calls if pair in reached_from(calls, pair))


def misfits_in(units):
    """The ascending tuple of the triples (unit, function, line) of calls with a wrong number of places."""
    functions = function_table(units)
    found = []
    for pair, function in functions.items():
        for k, line in enumerate(function[2]):
            if is_call_there(line, functions) and len(line[3]) != len(callee_of(line, functions)[1]):
                found.append((*pair, k))
    return tuple(found)


def order_of(units):
    """The tuple of the pairs of all functions, each behind those there that it calls; the least first that can come."""
    ask_no_ring(units)
    return tuple(ordered_pairs(units))


def function_table(units):
    """The dict of all functions by their pairs of names, ascending."""
    return {(unit[0], function[0]): function for unit in units for function in unit[1]}


def call_table(units):
    """The dict of what each function calls, by their pairs of names, ascending."""
    return {(unit[0], function[0]): called_by(function) for unit in units for function in unit[1]}


def is_call_there(line, functions):
    """True if line calls a function that is there, functions being a table of all."""
    return line[0] == "call" and (line[1], line[2]) in functions


def callee_of(line, functions):
    """The function that a line calls."""
    return functions[(line[1], line[2])]


def reached_from(calls, pair):
    """The ascending list of the pairs that a function calls, over others or not, those not there too."""
    found = {}
    waiting = [pair]
    while waiting:
        callees = calls.get(waiting.pop(), ())
        fresh = [callee for callee in callees if callee not in found]
        for callee in fresh:
            found[callee] = True
        waiting.extend(fresh)
    return sorted(found)


def ordered_pairs(units):
    """As order_of, a list; without rings."""
    calls = call_table(units)
    left = {pair: [callee for callee in calls[pair] if callee in calls] for pair in calls}
    done = {}
    while left:
        pair = min([entry for entry in left if all([callee in done for callee in left[entry]])])
        done[pair] = True
        del left[pair]
    return list(done)


def least_missing(units, unit, function):
    """The least function that is called by this one, over others or not, and is not there; None without one."""
    calls = call_table(units)
    return min([pair for pair in reached_from(calls, (unit, function)) if pair not in calls], default=None)


def ask_no_ring(units):
    """Raises Ringed for the first function on a ring."""
    rings = rings_in(units)
    if rings:
        unit, function = rings[0]
        raise Ringed(unit, function)


def ask_linked(units):
    """Raises Ringed for the first function on a ring, then Misfit for the first misfit."""
    ask_no_ring(units)
    misfits = misfits_in(units)
    if misfits:
        unit, function, line = misfits[0]
        raise Misfit(unit, function, line)


def ask_not_open(units, unit, function):
    """Raises Missing if the function is open."""
    pair = least_missing(units, unit, function)
    if pair is not None:
        raise Missing(pair[0], pair[1])
