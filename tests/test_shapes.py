import unittest
from itertools import combinations
from random import Random

from sevenruns.errors import Bent
from sevenruns.expanding import form_of
from sevenruns.kindmaking import kind_of
from sevenruns.shapes import is_shape, shape_at, shape_count, shape_number
from tests.kind_samples import BARE_KIND, BENT_KIND, FIRST_KINDS, GAP_KIND, HAND_FORMS, NESTED_TREE, PAIRS_KIND, PATH_TREE, SHIFTED
from tests.kind_samples import SQUARE_KIND, TIGHT_KIND, clans_slowly
from tests.samples import NOTHINGS, PAIRS, Q0, Q1, Q2, SPREAD, check_raises, check_refused

FIVE = ("first", Q0, Q1, ("sum", ((1, 0), (2, 1), (1, 2), (1, 3), (1, 4))))
FORTY = ("first", Q0, Q1, ("sum", tuple((1, k) for k in range(40))))
MANY = ("first", Q0, Q1, ("product", tuple((Q1, ("sum", ((1, k), (1, k + 10), (1, k + 20), (1, k + 30)))) for k in range(10))))
NESTED = ("first", Q0, Q1, NESTED_TREE)


def shape_lot(shape):
    return (shape,) if isinstance(shape, int) else tuple(sorted(which for part in shape for which in shape_lot(part)))


def shapes_slowly(lot, clans, knots):
    """All shapes with this lot, by (G11): clans of two lesser ones, or of one for each son of a knot."""
    if len(lot) == 1:
        return [lot[0]]
    if lot in knots:
        found = [()]
        for son in knots[lot]:
            found = [made + (part,) for made in found for part in shapes_slowly(son, clans, knots)]
        return found
    found = []
    for many in range(len(lot) - 1):
        for rest in combinations(lot[1:], many):
            one = (lot[0],) + rest
            other = tuple(which for which in lot if which not in one)
            if one in clans and other in clans:
                found += [(a, b) for a in shapes_slowly(one, clans, knots) for b in shapes_slowly(other, clans, knots)]
    return found


def knots_slowly(tree):
    if isinstance(tree, int):
        return {}
    sons = tree[1] if tree[0] == "knot" else [son for _, son in tree[1]]
    found = {lot: table for son in sons for lot, table in knots_slowly(son).items()}
    if tree[0] == "knot":
        lots = [shape_lot(tuple_of(son)) for son in sons]
        found[tuple(sorted(which for lot in lots for which in lot))] = lots
    return found


def tuple_of(tree):
    """The inputs of a tree, nested as in it."""
    if isinstance(tree, int):
        return tree
    return tuple(tuple_of(son) for son in (tree[1] if tree[0] == "knot" else [son for _, son in tree[1]]))


class Shapes(unittest.TestCase):
    def test_example(self):
        self.assertEqual(shape_at(kind_of(PAIRS), 0), (0, 1, 2))
        self.assertIs(is_shape(kind_of(form_of(SPREAD)), (0, (1, 2))), True)

    def test_counts(self):
        for kind, count in ((BARE_KIND, 0), (TIGHT_KIND, 1), (PAIRS_KIND, 1), (("first", Q0, Q1, 5), 1), (FIVE, 105), (GAP_KIND, 1),
                            (("first", Q0, Q1, ("product", ((Q0, 0), (Q1, 1), (Q0, 2)))), 3), (("first", Q0, Q1, SHIFTED), 1),
                            (NESTED, 1), (("first", Q0, Q1, PATH_TREE), 1), (MANY, 34459425 * 15 ** 10)):
            self.assertEqual(shape_count(kind=kind), count)
        count = 1
        for sons in range(2, 41):
            count *= 2 * sons - 3
        self.assertEqual(shape_count(FORTY), count)

    def test_all_shapes(self):
        for form, kind in HAND_FORMS:
            if kind[0] == "first":
                lot = tuple(sorted(shape_lot(tuple_of(kind[3]))))
                shapes = shapes_slowly(lot, clans_slowly(form), knots_slowly(kind[3]))
                self.assertEqual(len(shapes), shape_count(kind))
                self.assertEqual(sorted(shape_number(kind, shape) for shape in shapes), list(range(len(shapes))))
                for shape in shapes:
                    self.assertIs(is_shape(kind, shape), True)

    def test_there_and_back(self):
        rng = Random(171)
        for kind in FIRST_KINDS + (FIVE, FORTY, MANY, NESTED):
            count = shape_count(kind)
            numbers = range(count) if count < 200 else [0, count - 1] + [rng.randrange(count) for _ in range(10)]
            shapes = [shape_at(kind=kind, number=number) for number in numbers]
            self.assertEqual([shape_number(kind=kind, shape=shape) for shape in shapes], list(numbers))
            self.assertEqual(len(set(shapes)), len(set(numbers)))
            for shape in shapes:
                self.assertIs(is_shape(kind=kind, thing=shape), True)

    def test_no_shapes(self):
        three = ("first", Q0, Q1, ("sum", ((1, 0), (1, 1), (1, 2))))
        for shape in (((0, 1), 2), (0, (1, 2)), ((0, 2), 1)):
            self.assertIs(is_shape(three, shape), True)
        for thing in NOTHINGS + (0, (), (0,), (0, 1), (0, 1, 2), (2, (0, 1)), ((1, 2), 0), (1, (0, 2)), ((1, 0), 2), ((0, 1), (2,)), ((0, 1), 2, ()),
                                 [(0, 1), 2], ([0, 1], 2), ((0, 1), 3), ((0, 1), 1), ((0, True), 2), ((False, 1), 2), (((0, 1), 2),), ((0, 1), (2, ())),
                                 (((0,), 1), 2), (((0, 1), 2), ()), ((), ((0, 1), 2)), ((0, 1), "2"), ((0, 1), None), ((0, 1), Q2), ((0, 1), (2, 3))):
            self.assertIs(is_shape(three, thing), False)
        for thing in ((1, (0, 2)), ((0, 1), 2), (0, 1, 2), (0, (2, 1)), ((1, 2), 0), ((0, 2), 1), (0, (1, 2), 3), (0, ((1, 2),)), (0, 1)):
            self.assertIs(is_shape(TIGHT_KIND, thing), False)
        for thing in ((0, (1, 2)), ((0, 1), 2), (0, 2, 1), (0, 1), [0, 1, 2], (0, 1, True), (0, 1, (2,)), (0, 1, 2, ()), ((0, 1, 2),), 0):
            self.assertIs(is_shape(PAIRS_KIND, thing), False)
        self.assertIs(is_shape(NESTED, (((0, 1, 2), 3), 4, (5, 6))), True)
        for thing in (((0, 1, 2), 3, 4, (5, 6)), (((0, 1, 2), 3), (4, (5, 6))), (((0, (1, 2)), 3), 4, (5, 6)), (((0, 1, 2), 3), 4, (6, 5)),
                      (4, ((0, 1, 2), 3), (5, 6))):
            self.assertIs(is_shape(NESTED, thing), False)
        self.assertIs(is_shape(("first", Q0, Q1, 1), 1), True)
        for thing in (True, (1,), 0, (), None, "1", Q1):
            self.assertIs(is_shape(("first", Q0, Q1, 1), thing), False)
        for thing in NOTHINGS + ((), 0):
            self.assertIs(is_shape(BARE_KIND, thing), False)

    def test_refused(self):
        for kind in (TIGHT_KIND, BARE_KIND, FIVE):
            count = shape_count(kind)
            for number in NOTHINGS + (-1, count, count + 1, Q0, (0,), "0"):
                check_refused(self, shape_at, {"kind": kind, "number": number}, "number")
            for shape in NOTHINGS + (0, (), (0, 1, 2), ((0, 1), 2)):
                check_refused(self, shape_number, {"kind": kind, "shape": shape}, "shape")
        for thing in NOTHINGS + (0, (0, 1)):
            check_raises(self, Bent, {"which": 1}, is_shape, BENT_KIND, thing)
            check_raises(self, Bent, {"which": 1}, shape_at, BENT_KIND, thing)
            check_raises(self, Bent, {"which": 0}, shape_number, SQUARE_KIND, thing)
        check_raises(self, Bent, {"which": 1}, shape_count, BENT_KIND)
