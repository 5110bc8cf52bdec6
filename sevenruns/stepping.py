"""Events done to units."""

from sevenruns.errors import InvalidEvent
from sevenruns.reasons import reason_of, units_behind


def units_after(units, event):
    """The units behind the event, any value; InvalidEvent if there is a reason why not."""
    reason = reason_of(units, event)
    if reason is not None:
        raise InvalidEvent(event, reason)
    return units_behind(units, event)
