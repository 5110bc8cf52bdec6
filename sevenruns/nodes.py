"""The nodes of kinds, their knots, their breadth, their case."""

from sevenruns.kindthings import ask_first_kind
from sevenruns.trees import nodes_in, sons_of, tree_lot


def nodes_of(kind):
    """For each node in the kind the triple of its word, its lot, and the tuple of its sons' lots."""
    ask_first_kind(kind)
    if kind[0] == "bare":
        return ()
    return tuple((node[0], tree_lot(node), tuple(tree_lot(son) for son in sons_of(node))) for node in nodes_in(kind[3]))


def knots_of(kind):
    """For each knot in the kind the pair of its lot and how many sons it has."""
    return tuple((lot, len(sons)) for word, lot, sons in nodes_of(kind) if word == "knot")


def breadth_by(kind):
    """The most sons of a knot, 2 without knots."""
    return max([many for _, many in knots_of(kind)], default=2)


def case_by(kind):
    """The case of the kind: bare, bent, once or knotted."""
    if kind[0] != "first":
        return kind[0]
    return "knotted" if knots_of(kind) else "once"
