"""Events that are done to living units, and logs of them."""

from sevenruns.things import has_word, is_number, is_span
from sevenruns.unitthings import is_function, is_name, is_unit

EVENT_LENGTHS = {"put": 2, "drop": 2, "define": 3, "remove": 3, "side": 5, "day": 1}


def is_event(thing):
    """True if thing, any value, is an event, else False."""
    if not has_word(thing) or thing[0] not in EVENT_LENGTHS or len(thing) != EVENT_LENGTHS[thing[0]]:
        return False
    if thing[0] == "put":
        return is_unit(thing[1])
    if thing[0] == "define":
        return is_name(thing[1]) and is_function(thing[2])
    if not all([is_name(name) for name in thing[1:3]]):
        return False
    return thing[0] != "side" or (is_number(thing[3]) and is_span(thing[4]))


def is_log(thing):
    """True if thing, any value, is a log, else False."""
    return isinstance(thing, tuple) and all([is_event(entry) for entry in thing])
