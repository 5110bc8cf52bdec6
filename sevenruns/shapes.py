"""Shapes of kinds: the lots that a program without loss puts together, in which sequence."""

from sevenruns.asking import ask
from sevenruns.kindthings import ask_first_kind
from sevenruns.things import is_integer, is_number, is_pair
from sevenruns.trees import nodes_in, sons_of, tree_lot


def is_shape(kind, thing):
    """True if thing, any value, is a shape of the kind, else False."""
    ask_first_kind(kind)
    return kind[0] == "first" and is_tree_shape(kind[3], thing)


def shape_count(kind):
    """How many shapes the kind has, 0 if it is bare."""
    ask_first_kind(kind)
    return 0 if kind[0] == "bare" else tree_count(kind[3])


def shape_at(kind, number):
    """The shape of the kind with this number."""
    many = shape_count(kind)
    ask(is_number(number) and number < many, "number")
    return tree_shape_at(kind[3], number)


def shape_number(kind, shape):
    """The number of this shape of the kind."""
    ask(is_shape(kind, shape), "shape")
    return tree_shape_number(kind[3], shape)


def shape_inputs(thing):
    """The list of what stands in thing, any value, in the place of inputs."""
    if not isinstance(thing, tuple):
        return [thing]
    return [entry for part in thing for entry in shape_inputs(part)]


def is_tree_shape(tree, thing):
    """True if thing, any value, is a shape of the tree."""
    if not isinstance(tree, tuple):
        return is_integer(thing) and thing == tree
    inputs = shape_inputs(thing)
    if not all([is_integer(entry) for entry in inputs]) or sorted(inputs) != list(tree_lot(tree)):
        return False
    if tree[0] != "knot":
        return are_pairs(sons_of(tree), thing)
    sons = sons_of(tree)
    return len(thing) == len(sons) and all([is_tree_shape(son, part) for son, part in zip(sons, thing)])


def are_pairs(sons, thing):
    """True if thing, with some inputs, each once, puts shapes of the sons together two by two."""
    son = son_with(sons, thing)
    if son is not None:
        return is_tree_shape(son, thing)
    if not is_pair(thing) or not all([shape_inputs(part) for part in thing]):
        return False
    one, other = thing
    return min(shape_inputs(one)) < min(shape_inputs(other)) and are_pairs(sons, one) and are_pairs(sons, other)


def son_with(sons, thing):
    """The son with just the inputs in thing, None if there is none."""
    lot = tuple(sorted(shape_inputs(thing)))
    for son in sons:
        if tree_lot(son) == lot:
            return son
    return None


def tree_count(tree):
    """How many shapes the tree has."""
    count = 1
    for node in nodes_in(tree):
        count *= own_count(node)
    return count


def own_count(node):
    """In how many ways the sons of the node are put together."""
    count = 1
    if node[0] != "knot":
        for odd in range(3, 2 * len(sons_of(node)) - 2, 2):
            count *= odd
    return count


def tree_shape_at(tree, number):
    """The shape of the tree with this number."""
    if not isinstance(tree, tuple):
        return tree
    many = own_count(tree)
    own, rest = number % many, number // many
    shapes = []
    for son in sons_of(tree):
        shapes.append(tree_shape_at(son, rest % tree_count(son)))
        rest //= tree_count(son)
    return tuple(shapes) if tree[0] == "knot" else paired(shapes, own)


def tree_shape_number(tree, shape):
    """The number of this shape of the tree."""
    if not isinstance(tree, tuple):
        return 0
    sons = sons_of(tree)
    if tree[0] == "knot":
        skeleton, shapes = 0, list(shape)
    else:
        shapes = [() for _ in sons]
        skeleton = skeleton_of(sons, shape, shapes)
    number = 0
    for son, part in reversed(list(zip(sons, shapes))):
        number = number * tree_count(son) + tree_shape_number(son, part)
    return number * own_count(tree) + skeleton_number(skeleton, len(sons))


def paired(shapes, number):
    """The shapes put together two by two in the way that the number tells."""
    # In a skeleton a number stands for each shape. One after the other is put beside one of
    # the parts that are there already, of which there are two more each time.
    skeleton = 0
    for k in range(1, len(shapes)):
        skeleton = with_beside(skeleton, number % (2 * k - 1), k)
        number //= 2 * k - 1
    return filled(skeleton, shapes)


def skeleton_number(skeleton, many):
    """The number of the way in which the skeleton puts so many shapes together, 0 for a knot's."""
    number = 0
    if isinstance(skeleton, tuple):
        for k in range(many - 1, 0, -1):
            skeleton, at = taken_out(skeleton, k)
            number = number * (2 * k - 1) + at
    return number


def with_beside(skeleton, at, k):
    """The skeleton with k beside its part with the number at; each part comes ahead of those in it."""
    if at == 0:
        return (skeleton, k)
    one, other = skeleton
    many = part_count(one)
    if at <= many:
        return (with_beside(one, at - 1, k), other)
    return (one, with_beside(other, at - 1 - many, k))


def taken_out(skeleton, k):
    """The skeleton without k, the greatest number in it, and the number of the part beside which k was."""
    one, other = skeleton
    if other == k:
        return one, 0
    if k in shape_inputs(one):
        rest, at = taken_out(one, k)
        return (rest, other), at + 1
    rest, at = taken_out(other, k)
    return (one, rest), at + 1 + part_count(one)


def part_count(skeleton):
    """How many parts the skeleton has, itself counted."""
    return 2 * len(shape_inputs(skeleton)) - 1


def filled(skeleton, shapes):
    """The skeleton with each shape in the place of its number."""
    if not isinstance(skeleton, tuple):
        return shapes[skeleton]
    return tuple(filled(part, shapes) for part in skeleton)


def skeleton_of(sons, shape, shapes):
    """The skeleton of a shape of a sum or product; the sons' shapes are put into the list shapes."""
    son = son_with(sons, shape)
    if son is None:
        return tuple(skeleton_of(sons, part, shapes) for part in shape)
    place = sons.index(son)
    shapes[place] = shape
    return place
