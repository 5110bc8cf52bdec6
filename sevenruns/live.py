"""Living units: events are done to them, and undone."""

from sevenruns.asking import ask
from sevenruns.errors import InvalidEvent, NothingToUndo
from sevenruns.liveasks import LiveAsks
from sevenruns.reasons import reason_of
from sevenruns.stepping import units_after
from sevenruns.things import is_positive


class LiveUnits(LiveAsks):
    """Units to which events are done, and the log of these."""

    def __init__(self, units):
        super().__init__(units)
        self._events = []

    def put(self, unit):
        """Adds the unit, or puts it in the place of the one of its name."""
        self.go(("put", unit))

    def drop(self, name):
        """Takes out the unit of this name."""
        self.go(("drop", name))

    def define(self, name, function):
        """Adds the function to this unit, or puts it in the place of the one of its name."""
        self.go(("define", name, function))

    def take_out(self, name, function):
        """Takes this function out of this unit."""
        self.go(("remove", name, function))

    def side(self, name, function, which, span):
        """Makes the span the side of the input which of this function."""
        self.go(("side", name, function, which, span))

    def day(self):
        """Does the event of a day."""
        self.go(("day",))

    def go(self, event):
        """Does the event; InvalidEvent if there is a reason why not."""
        self._states.append(units_after(self.units_now(), event))
        self._events.append(event)

    def barred(self, event):
        """The reason why the event cannot be done, None without one."""
        return reason_of(self.units_now(), event)

    def do_all(self, events, keep=False):
        """Does the events one by one; at the first with a reason those ahead of it stay done only if keep is True."""
        ask(isinstance(events, tuple), "events")
        many = len(self._events)
        for event in events:
            reason = self.barred(event)
            if reason is not None:
                if keep is not True:
                    self.cut_to(many)
                raise InvalidEvent(event, reason)
            self.go(event)

    def undo(self, steps=1):
        """Takes the last events, as many as steps says, out of the log."""
        ask(is_positive(steps), "steps")
        if steps > len(self._events):
            raise NothingToUndo(steps)
        self.cut_to(len(self._events) - steps)

    def cut_to(self, many):
        """Leaves as many of the first events as many says, and the units behind them."""
        del self._events[many:]
        del self._states[many + 1:]
        del self._tables[many + 1:]
        del self._anew[many + 1:]

    def tried(self, events):
        """The units behind all of the events; nothing is done."""
        ask(isinstance(events, tuple), "events")
        units = self.units_now()
        for event in events:
            units = units_after(units, event)
        return units

    def log(self):
        """The tuple of the events that were done."""
        return tuple(self._events)

    def __eq__(self, other):
        if not isinstance(other, LiveUnits):
            return False
        return self._states[-1] == other._states[-1] and self._events == other._events
