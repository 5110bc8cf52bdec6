"""Trees of kinds: their sons, their inputs, the trees within them."""

MOST_INPUTS = 40


def sons_of(tree):
    """The tuple of the sons of a tree, () for an input."""
    if not isinstance(tree, tuple):
        return ()
    if tree[0] == "knot":
        return tree[1]
    return tuple(son for _, son in tree[1])


def tree_lot(tree):
    """The lot of the inputs in the tree."""
    if not isinstance(tree, tuple):
        return (tree,)
    return tuple(sorted([which for son in sons_of(tree) for which in tree_lot(son)]))


def trees_in(tree):
    """The list of the trees that stand in the tree, each ahead of its sons, the sons in sequence."""
    found = [tree]
    for son in sons_of(tree):
        found.extend(trees_in(son))
    return found


def nodes_in(tree):
    """The list of the nodes among these trees."""
    return [node for node in trees_in(tree) if isinstance(node, tuple)]


def places_form(tree):
    """The form of a knot's places, its size the number of sons."""
    _, sons, terms = tree
    return (len(sons), tuple((lot, (whole, 1)) for lot, whole in terms))
