"""Spans of the values of kinds and of their nodes on boxes.

No two sons of a node have an input in common, so spans told node by node lose nothing."""

from sevenruns.corners import corner_span
from sevenruns.kindthings import ask_first_kind, ask_kind_box
from sevenruns.reckoning import ONE
from sevenruns.spans import scaled_span, span_plus, span_times
from sevenruns.trees import places_form, sons_of, trees_in


def span_by(kind, box):
    """The span from the least to the greatest value of the kind at the points of the box."""
    ask_kind_box(kind, box)
    ask_first_kind(kind)
    if kind[0] == "bare":
        return point_span(kind[1])
    _, base, scale, tree = kind
    return span_plus(scaled_span(tree_span(tree, box), scale), point_span(base))


def node_spans(kind, box):
    """The tuple of the spans of the nodes' values at the points of the box, without the kind's scale and base."""
    ask_kind_box(kind, box)
    ask_first_kind(kind)
    if kind[0] == "bare":
        return ()
    pairs = list(zip(trees_in(kind[3]), tree_spans(kind[3], box)))
    return tuple(span for tree, span in pairs if isinstance(tree, tuple))


def point_span(quotient):
    """The span that holds the quotient alone."""
    return (quotient, quotient)


def tree_span(tree, box):
    """The span of the tree's values."""
    return tree_spans(tree, box)[0]


def tree_spans(tree, box):
    """The list of the spans of the trees in the tree, in the sequence of trees_in."""
    if not isinstance(tree, tuple):
        return [box[tree]]
    rows = [tree_spans(son, box) for son in sons_of(tree)]
    return [node_span(tree, [row[0] for row in rows])] + [span for row in rows for span in row]


def node_span(node, spans):
    """The span of the values of a node whose sons have these spans."""
    if node[0] == "sum":
        return sum_span([scaled_span(span, (whole, 1)) for (whole, _), span in zip(node[1], spans)])
    if node[0] == "product":
        return product_span([span_plus(span, point_span(shift)) for (shift, _), span in zip(node[1], spans)])
    return corner_span(places_form(node), tuple(spans))


def sum_span(spans):
    """The span of the sums of a quotient of each span."""
    found = spans[0]
    for span in spans[1:]:
        found = span_plus(found, span)
    return found


def product_span(spans):
    """The span of the products of a quotient of each span, that of 1 if there are none."""
    found = point_span(ONE)
    for span in spans:
        found = span_times(found, span)
    return found
