"""Parts of kinds, put together where no two of them have an input in common.

A part is a triple (base, scale, tree): what a kind that is first has behind its word. Its
value is base, and scale, which is not nought, times the tree's value added."""

from sevenruns.kindmaking import in_wholes, knot_of, replaced
from sevenruns.kindthings import multiple, total
from sevenruns.reckoning import NOUGHT, ONE, added, divided, multiplied
from sevenruns.trees import places_form, sons_of, tree_lot


def input_part(which):
    """The part of the input which."""
    return (NOUGHT, ONE, which)


def part_times(part, quotient):
    """The part times the quotient, which is not nought."""
    base, scale, tree = part
    return (multiplied(base, quotient), multiplied(scale, quotient), tree)


def part_plus(part, quotient):
    """The part with the quotient added."""
    base, scale, tree = part
    return (added(base, quotient), scale, tree)


def sum_part(parts):
    """The sum of the parts, of which there is one at least."""
    base = total([part[0] for part in parts])
    rows = sorted([row for _, scale, tree in parts for row in sum_rows(scale, tree)], key=row_start)
    if len(rows) == 1:
        return (base, *rows[0])
    scale, wholes = in_wholes([own for own, _ in rows])
    return (base, scale, ("sum", tuple(zip(wholes, [tree for _, tree in rows]))))


def sum_rows(scale, tree):
    """The list of pairs (quotient, tree) that, each multiplied and all added, are scale times the tree."""
    if is_node(tree, "sum"):
        return [(multiplied(scale, (whole, 1)), son) for whole, son in tree[1]]
    return [(scale, tree)]


def product_part(parts):
    """The product of the parts, of which there is one at least."""
    if len(parts) == 1:
        return parts[0]
    scale = multiple([part[1] for part in parts])
    rows = [row for base, own, tree in parts for row in product_rows(divided(base, own), tree)]
    return (NOUGHT, scale, ("product", tuple(sorted(rows, key=row_start))))


def product_rows(shift, tree):
    """The list of pairs (quotient, tree) that, both added and all multiplied, are shift and the tree added."""
    if shift == NOUGHT and is_node(tree, "product"):
        return list(tree[1])
    return [(shift, tree)]


def knot_part(knot, parts):
    """The value of the knot with those of the parts in the places of its sons."""
    form = places_form(knot)
    for place, (base, scale, _) in enumerate(parts):
        form = replaced(form, place, base, scale)
    trees = [part[2] for part in parts]
    firsts = [tree_lot(tree)[0] for tree in trees]
    ranks = sorted(firsts)
    # The sons stand in the sequence of their least inputs, and the places follow them.
    moved = [ranks.index(first) for first in firsts]
    terms = sorted([(tuple(sorted([moved[entry] for entry in lot])), own) for lot, own in form[1]])
    return knot_of((form[0], tuple(terms)), tuple(trees[firsts.index(first)] for first in ranks))


def planted(tree, parts):
    """The part of the tree if its inputs have the values of the parts, a dict from inputs to parts."""
    if not isinstance(tree, tuple):
        return parts[tree]
    sons = [planted(son, parts) for son in sons_of(tree)]
    if tree[0] == "knot":
        return knot_part(tree, sons)
    if tree[0] == "sum":
        return sum_part([part_times(part, (whole, 1)) for (whole, _), part in zip(tree[1], sons)])
    return product_part([part_plus(part, shift) for (shift, _), part in zip(tree[1], sons)])


def planted_kind(kind, parts):
    """The kind of a kind that is first if its inputs have the values of the parts."""
    _, base, scale, tree = kind
    return ("first", *part_plus(part_times(planted(tree, parts), scale), base))


def is_node(tree, word):
    """True if the tree is a node with this word."""
    return isinstance(tree, tuple) and tree[0] == word


def row_start(row):
    """The least input of the tree in a row of a sum or product."""
    return tree_lot(row[1])[0]
