"""Programs without loss, made from kinds."""

from sevenruns.asking import ask
from sevenruns.errors import Knotted
from sevenruns.kindforms import ask_size
from sevenruns.nodes import knots_of
from sevenruns.reckoning import NOUGHT, ONE
from sevenruns.shapes import is_shape, shape_at, son_with
from sevenruns.trees import sons_of


def program_by(kind, size, shape):
    """An exact program of this size with the kind's value, which puts inputs together as the shape does."""
    ask_size(kind, size)
    ask(is_shape(kind, shape), "shape")
    return made_program(kind, size, shape)


def program_of(kind, size):
    """An exact program of this size with the kind's value."""
    ask_size(kind, size)
    if kind[0] == "bare":
        return (size, (("num", kind[1]),))
    return made_program(kind, size, shape_at(kind, 0))


def plain_of(kind, size):
    """An exact plain program of this size with the kind's value; Knotted if there is none."""
    ask_size(kind, size)
    knots = knots_of(kind)
    if knots:
        raise Knotted(knots[0][0])
    return program_of(kind, size)


def made_program(kind, size, shape):
    """As program_by, for a kind that is first and one of its shapes."""
    _, base, scale, tree = kind
    maker = Maker(size)
    place = maker.shifted(maker.scaled(maker.tree(tree, shape), scale), base)
    if place < size:
        maker.sum_with(place, NOUGHT)
    return (size, tuple(maker.lines))


class Maker:
    """Lines that are made one after the other; what is made is told by its place."""

    def __init__(self, size):
        self.size = size
        self.lines = []

    def put(self, line):
        """The place of this line, which is added."""
        self.lines.append(line)
        return self.size + len(self.lines) - 1

    def scaled(self, place, quotient):
        """The place of the quotient times what the place has."""
        if quotient == ONE:
            return place
        return self.put(("mul", self.put(("num", quotient)), place))

    def shifted(self, place, quotient):
        """The place of the quotient added to what the place has."""
        return place if quotient == NOUGHT else self.sum_with(place, quotient)

    def sum_with(self, place, quotient):
        """The place of such a sum, a line of its own also if the quotient is nought."""
        return self.put(("add", self.put(("num", quotient)), place))

    def tree(self, tree, shape):
        """The place of the tree's value, made as the shape tells."""
        if not isinstance(tree, tuple):
            return tree
        if tree[0] != "knot":
            return self.pairs(tree, shape)
        reads = [self.tree(son, part) for son, part in zip(sons_of(tree), shape)]
        return self.put(("mix", tuple(reads), mix_numbers(tree)))

    def pairs(self, node, shape):
        """The place of the sum or product of the sons of the node with inputs in the shape, all changed as in it."""
        son = son_with(sons_of(node), shape)
        if son is None:
            one, other = [self.pairs(node, part) for part in shape]
            return self.put(("add" if node[0] == "sum" else "mul", one, other))
        number = node[1][sons_of(node).index(son)][0]
        place = self.tree(son, shape)
        return self.scaled(place, (number, 1)) if node[0] == "sum" else self.shifted(place, number)


def mix_numbers(knot):
    """The numbers of the mix that reads the sons of the knot."""
    _, sons, terms = knot
    numbers = [NOUGHT for _ in range(1 << len(sons))]
    for lot, whole in terms:
        numbers[sum([1 << place for place in lot])] = (whole, 1)
    return tuple(numbers)
