import unittest

from sevenruns.errors import Bent, NotUsable
from sevenruns.expanding import form_of
from sevenruns.kindforms import form_by
from sevenruns.kindmaking import kind_of
from sevenruns.kindthings import lot_of
from sevenruns.nodes import breadth_by, case_by, knots_of, nodes_of
from tests.kind_samples import BARE_KIND, BENT_KIND, FIRST_KINDS, GAP_KIND, HAND_FORMS, NESTED_TREE, PAIRS_KIND, PATH_TREE, SHIFTED
from tests.kind_samples import SQUARE_KIND, TIGHT_KIND, inputs_slowly, small_kinds, value_slowly
from tests.samples import BENT, NOTHINGS, Q0, Q1, Q2, SPREAD, check_raises, check_refusals, form_value, some_points

NESTED = ("first", Q1, Q2, NESTED_TREE)
NO_SIZES = NOTHINGS + (0, -1, Q1, (3,), [3], "3")


def nodes_slowly(tree):
    if isinstance(tree, int):
        return []
    sons = tree[1] if tree[0] == "knot" else [son for _, son in tree[1]]
    found = [(tree[0], tuple(sorted(inputs_slowly(tree))), tuple(tuple(sorted(inputs_slowly(son))) for son in sons))]
    for son in sons:
        found += nodes_slowly(son)
    return found


class Nodes(unittest.TestCase):
    def test_example(self):
        self.assertEqual(nodes_of(kind_of(form_of(SPREAD))),
                         (("product", (0, 1, 2), ((0,), (1, 2))), ("sum", (1, 2), ((1,), (2,)))))

    def test_nodes(self):
        for kind in FIRST_KINDS:
            self.assertEqual(nodes_of(kind=kind), tuple(nodes_slowly(kind[3])))
        self.assertEqual([word for word, _, _ in nodes_of(NESTED)], ["knot", "sum", "knot", "product"])
        self.assertEqual(nodes_of(BARE_KIND), ())
        self.assertEqual(nodes_of(("first", Q0, Q1, 5)), ())

    def test_knots_and_breadth(self):
        self.assertEqual(knots_of(kind=NESTED), (((0, 1, 2, 3, 4, 5, 6), 3), ((0, 1, 2), 3)))
        self.assertEqual(knots_of(("first", Q0, Q1, PATH_TREE)), (((0, 1, 2, 3), 4),))
        self.assertEqual(breadth_by(kind=("first", Q0, Q1, PATH_TREE)), 4)
        self.assertEqual(breadth_by(PAIRS_KIND), 3)
        # The greatest knot need not be the first.
        both = ("first", Q0, Q1, ("sum", ((1, PAIRS_KIND[3]), (1, ("knot", (3, 4, 5, 6), PATH_TREE[2])))))
        self.assertEqual(knots_of(both), (((0, 1, 2), 3), ((3, 4, 5, 6), 4)))
        self.assertEqual(breadth_by(both), 4)
        for kind in (TIGHT_KIND, BARE_KIND, GAP_KIND, ("first", Q0, Q1, 0)):
            self.assertEqual(knots_of(kind), ())
            self.assertEqual(breadth_by(kind), 2)
        # A product of three sons has no knot.
        self.assertEqual(breadth_by(("first", Q0, Q1, ("product", ((Q0, 0), (Q0, 1), (Q0, 2))))), 2)

    def test_cases(self):
        for kind, case in ((BARE_KIND, "bare"), (BENT_KIND, "bent"), (TIGHT_KIND, "once"), (PAIRS_KIND, "knotted"), (NESTED, "knotted"),
                           (("first", Q0, Q1, 3), "once"), (GAP_KIND, "once"), (SQUARE_KIND, "bent")):
            self.assertEqual(case_by(kind=kind), case)

    def test_refused(self):
        for function in (nodes_of, knots_of, breadth_by):
            check_raises(self, Bent, {"which": 1}, function, BENT_KIND)
            check_raises(self, Bent, {"which": 0}, function, SQUARE_KIND)


class KindForms(unittest.TestCase):
    def test_there_and_back(self):
        for kind in small_kinds():
            form = form_by(kind=kind, size=8)
            self.assertEqual(form[0], 8)
            self.assertEqual(kind_of(form), kind)
            for point in some_points(8)[:8]:
                self.assertEqual(form_value(form, point), value_slowly(kind, point))
        for form, kind in HAND_FORMS:
            if form[0] <= 8:
                self.assertEqual(form_by(kind, form[0]), form)

    def test_bare_and_bent(self):
        self.assertEqual(form_by(BARE_KIND, 1), (1, (((), (-5, 2)),)))
        self.assertEqual(form_by(("bare", Q0), 3), (3, ()))
        self.assertEqual(form_by(BENT_KIND, 2), BENT)
        self.assertEqual(form_by(BENT_KIND, 5), (5, BENT[1]))
        self.assertEqual(form_by(SHIFTED_KIND, 3), (3, (((0, 1, 2), Q1), ((2,), Q1))))

    def test_refused(self):
        for kind in small_kinds() + [BARE_KIND, BENT_KIND]:
            least = lot_of(kind)[-1] + 1 if lot_of(kind) else 1
            check_refusals(self, form_by, {"kind": kind, "size": least}, {"size": NO_SIZES + tuple(range(least))})
            self.assertEqual(form_by(kind, least)[0], least)
        check_raises(self, NotUsable, {"word": "size", "at": -1}, form_by, BENT_KIND, 1)


SHIFTED_KIND = ("first", Q0, Q1, SHIFTED)
