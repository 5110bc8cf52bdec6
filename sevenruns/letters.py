"""Letters: what of a kind stays together if some of its inputs are shared."""

from sevenruns.asking import ask
from sevenruns.kindthings import lot_of
from sevenruns.things import is_lot
from sevenruns.trees import MOST_INPUTS, sons_of, tree_lot


def letters_of(kind, lot):
    """The ascending tuple of the lots of the letters into which the kind falls by the shared inputs in lot."""
    ask(is_lot(MOST_INPUTS, lot), "lot")
    if kind[0] != "first":
        return tuple((which,) for which in lot_of(kind))
    return tuple(sorted(tree_letters(kind[3], lot)))


def tree_letters(tree, lot):
    """The list of the lots of the letters into which the tree falls."""
    own = tree_lot(tree)
    if not isinstance(tree, tuple) or not are_shared(own, lot):
        return [own]
    letters, together = [], []
    for son in sons_of(tree):
        if are_shared(tree_lot(son), lot) or tree[0] == "knot":
            letters.extend(tree_letters(son, lot))
        else:
            together.extend(tree_lot(son))
    return letters + [tuple(sorted(together))] if together else letters


def are_shared(inputs, lot):
    """True if one of the inputs is in the lot."""
    return any([which in lot for which in inputs])
