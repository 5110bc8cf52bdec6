"""What an event does to units, and why it cannot be done."""

from sevenruns.boxes import side_put
from sevenruns.liveevents import is_event
from sevenruns.unitlinks import misfits_in, rings_in
from sevenruns.unitthings import row_named, with_row, without_row


def reason_of(units, event):
    """The first reason for which the event, any value, cannot be done to the units, None without one."""
    if not is_event(event):
        return "shape"
    reason = place_reason(units, event)
    if reason is not None:
        return reason
    changed = units_behind(units, event)
    if rings_in(changed):
        return "ring"
    return "misfit" if misfits_in(changed) else None


def place_reason(units, event):
    """The reason for which the units do not have what an event names, None without one."""
    if event[0] in ("put", "day"):
        return None
    unit = row_named(units, event[1])
    if unit is None:
        return "unit"
    if event[0] in ("drop", "define"):
        return None
    function = row_named(unit[1], event[2])
    if function is None:
        return "function"
    if event[0] == "remove":
        return "last" if len(unit[1]) == 1 else None
    return None if event[3] < len(function[1]) else "side"


def units_behind(units, event):
    """The units behind an event for which they have what it names."""
    word = event[0]
    if word == "day":
        return units
    if word == "put":
        return with_row(units, event[1])
    if word == "drop":
        return without_row(units, event[1])
    functions = row_named(units, event[1])[1]
    return with_row(units, (event[1], functions_behind(functions, event)))


def functions_behind(functions, event):
    """The functions of the unit that an event on a function of it names, behind this event."""
    if event[0] == "define":
        return with_row(functions, event[2])
    if event[0] == "remove":
        return without_row(functions, event[2])
    name, box, lines, keeps = row_named(functions, event[2])
    return with_row(functions, (name, side_put(box, event[3], event[4]), lines, keeps))
