"""Papers that show that a plain program is exact."""

from sevenruns.asking import ask_plain
from sevenruns.errors import NotExact
from sevenruns.walks import Walk


def exact_paper(program):
    """The ascending tuple of triples (line, lot, factor) of what the adds and subs share."""
    ask_plain(program)
    walk = Walk(program)
    rows = []
    for k in walk.counting:
        fault = walk.fault_at(k)
        if fault is not None:
            raise NotExact(fault[0], k, fault[1])
        rows.extend([(k, lot, factor) for lot, factor in walk.rows_at(k)])
        walk.go_past(k)
    return tuple(rows)
