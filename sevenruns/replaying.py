"""Logs done to units once more, counted day by day, and cut."""

from sevenruns.asking import ask
from sevenruns.live import LiveUnits
from sevenruns.liveevents import is_log
from sevenruns.things import is_number


def replayed(units, log):
    """A LiveUnits of the units to which the events of the log were done."""
    ask_log(log)
    live = LiveUnits(units)
    live.do_all(log)
    return live


def days_of(units, log):
    """For each day event of the log how many functions the events since the one before it made anew."""
    ask_log(log)
    live = LiveUnits(units)
    counts, pairs = [], {}
    for event in log:
        live.go(event)
        if event[0] == "day":
            counts.append(len(pairs))
            pairs = {}
        else:
            for pair in live.anew():
                pairs[pair] = True
    return tuple(counts)


def cut_log(log, many):
    """The log of the first many events, and that of the others."""
    ask_log(log)
    ask(is_number(many) and many <= len(log), "many")
    return (log[:many], log[many:])


def ask_log(log):
    """Refuses log unless it is one."""
    ask(is_log(log), "log")
