"""The checker of kinds."""

from sevenruns.errors import InvalidPaper
from sevenruns.kindthings import kind_fault
from sevenruns.trees import trees_in


def lets_kind(thing):
    """How many trees stand in the kind thing; InvalidPaper for what is none."""
    fault = kind_fault(thing)
    if fault is not None:
        raise InvalidPaper(fault[0], fault[1])
    return len(trees_in(thing[3])) if thing[0] == "first" else 0
