import unittest
from random import Random

from sevenruns.corners import corner_counts, corner_span
from sevenruns.errors import Bent
from sevenruns.kindends import counts_by, ends_by
from sevenruns.kindforms import form_by
from sevenruns.kindmaking import kind_of
from sevenruns.kindspans import node_spans, span_by
from sevenruns.kindthings import value_by
from sevenruns.nodes import nodes_of
from tests.kind_samples import BARE_KIND, BENT_KIND, GAP_KIND, NESTED_TREE, PAIRS_KIND, PATH_TREE, SQUARE_KIND, TIGHT_KIND, corners_slowly
from tests.kind_samples import dense_form, no_kind_boxes, random_structured, small_kinds, some_box, tree_slowly, value_slowly
from tests.samples import NOTHINGS, Q0, Q1, Q2, UNIT, check_raises, check_refusals, frac, quot

BOX = (((-1, 1), (2, 1)), UNIT, UNIT)
FORTY = ("first", Q1, (-2, 1), ("sum", tuple((1 if k % 2 else 3, k) for k in range(40))))
PRODUCT = ("first", Q0, Q1, ("product", tuple((Q0, k) for k in range(40))))
FUNCTIONS = (span_by, node_spans, ends_by, counts_by)


def sons_and_nodes(tree):
    """The nodes of a tree, each ahead of its sons."""
    if isinstance(tree, int):
        return []
    sons = tree[1] if tree[0] == "knot" else [son for _, son in tree[1]]
    return [tree] + [node for son in sons for node in sons_and_nodes(son)]


def checked_kinds(seed, most=6):
    """Kinds beside boxes for them, some with more sides than they need."""
    rng = Random(seed)
    rows = [(kind, some_box(rng, 8)) for kind in small_kinds() for _ in range(2)]
    for _ in range(150):
        form = random_structured(rng, most=most)
        rows.append((kind_of(form), some_box(rng, form[0])))
    return rows + [(kind_of(dense_form(size)), some_box(rng, size)) for size in (3, 4, 5)]


class Spans(unittest.TestCase):
    def test_examples(self):
        self.assertEqual(span_by(TIGHT_KIND, BOX), ((-2, 1), (4, 1)))
        self.assertEqual(node_spans(TIGHT_KIND, BOX), (((-2, 1), (4, 1)), ((0, 1), (2, 1))))

    def test_as_at_all_corners(self):
        for kind, box in checked_kinds(231):
            values = [value_slowly(kind, corner) for corner in corners_slowly(box)]
            self.assertEqual(span_by(kind=kind, box=box), (quot(min(values)), quot(max(values))))
            if kind[0] == "first":
                nodes = sons_and_nodes(kind[3])
                spans = node_spans(kind=kind, box=box)
                self.assertEqual(len(spans), len(nodes_of(kind)))
                for node, span in zip(nodes, spans):
                    values = [tree_slowly(node, corner) for corner in corners_slowly(box)]
                    self.assertEqual(span, (quot(min(values)), quot(max(values))))

    def test_bare_kinds(self):
        for box in ((), (UNIT,), BOX):
            self.assertEqual(span_by(BARE_KIND, box), ((-5, 2), (-5, 2)))
            self.assertEqual(node_spans(BARE_KIND, box), ())
            self.assertEqual(ends_by(BARE_KIND, box)[0][:0], ())
            self.assertIn(ends_by(BARE_KIND, box)[1], corners_slowly(box))
        self.assertEqual(ends_by(BARE_KIND, ()), ((), ()))
        self.assertEqual(counts_by(BARE_KIND, ()), (1, 1))
        self.assertEqual(counts_by(BARE_KIND, (UNIT, (Q1, Q1), UNIT)), (4, 4))

    def test_an_input_alone(self):
        kind = ("first", Q1, (-2, 1), 1)
        self.assertEqual(span_by(kind, (UNIT, (Q1, Q2))), ((-3, 1), (-1, 1)))
        self.assertEqual(node_spans(kind, (UNIT, (Q1, Q2))), ())

    def test_forty_sides(self):
        box = tuple((Q0, (1, 1 + k % 3)) for k in range(40))
        values = [3 if k % 2 == 0 else 1 for k in range(40)]
        top = sum(value / frac((1 + k % 3, 1)) for k, value in enumerate(values))
        self.assertEqual(span_by(FORTY, box), (quot(1 - 2 * top), Q1))
        self.assertEqual(counts_by(FORTY, box), (1, 1))
        self.assertEqual(counts_by(PRODUCT, (UNIT,) * 40), (2 ** 40 - 1, 1))
        self.assertEqual(counts_by(PRODUCT, (((-1, 1), Q1),) * 40), (2 ** 39, 2 ** 39))
        self.assertEqual(counts_by(GAP_KIND, ((Q1, Q1),) * 7 + (UNIT,) * 33)[0] % 2 ** 30, 0)
        low, high = ends_by(PRODUCT, (((-2, 1), Q1),) * 40)
        self.assertEqual(value_by(PRODUCT, high), (2 ** 40, 1))
        self.assertEqual(value_by(PRODUCT, low), (-2 ** 39, 1))
        self.assertEqual(span_by(PRODUCT, (((-2, 1), Q1),) * 40), ((-2 ** 39, 1), (2 ** 40, 1)))


class Ends(unittest.TestCase):
    def test_examples(self):
        self.assertEqual(ends_by(TIGHT_KIND, BOX), (((-1, 1), (1, 1), (1, 1)), ((2, 1), (1, 1), (1, 1))))
        self.assertEqual(counts_by(TIGHT_KIND, (UNIT, UNIT, UNIT)), (5, 1))
        self.assertEqual(counts_by(TIGHT_KIND, (UNIT, UNIT, UNIT, UNIT, (Q1, Q1))), (10, 2))

    def test_as_at_all_corners(self):
        for kind, box in checked_kinds(232):
            corners = corners_slowly(box)
            values = [value_slowly(kind, corner) for corner in corners]
            low, high = ends_by(kind=kind, box=box)
            self.assertIn(low, corners)
            self.assertIn(high, corners)
            self.assertEqual((value_slowly(kind, low), value_slowly(kind, high)), (min(values), max(values)))
            self.assertEqual(counts_by(kind=kind, box=box), (values.count(min(values)), values.count(max(values))))

    def test_noughts_let_all_others_go(self):
        # Where x0 is nought, all corners of the rest have the least value, those between included.
        many = ("first", Q0, Q1, ("product", ((Q0, 0), (Q0, ("sum", ((1, 1), (2, 2), (4, 3)))))))
        self.assertEqual(counts_by(many, (UNIT,) * 4), (9, 1))
        self.assertEqual(counts_by(many, (((-1, 1), Q0),) + (UNIT,) * 3), (1, 9))
        both = ("first", Q0, Q1, ("product", ((Q0, ("sum", ((1, 0), (2, 1)))), (Q0, ("sum", ((1, 2), (2, 3)))))))
        self.assertEqual(counts_by(both, (UNIT,) * 4), (7, 1))
        # A knot that is nought whatever its second son is, as long as both others are.
        knot = ("first", Q0, Q1, ("knot", (0, ("sum", ((1, 1), (2, 2))), 3), (((0, 1), 1), ((0, 2), 1), ((1, 2), 1))))
        self.assertEqual(counts_by(knot, (UNIT,) * 4), (6, 1))

    def test_all_corners_alike(self):
        for kind in (TIGHT_KIND, PAIRS_KIND):
            self.assertEqual(counts_by(kind, ((Q1, Q1), (Q2, Q2), (Q0, Q0))), (1, 1))
            self.assertEqual(counts_by(kind, ((Q1, Q1), (Q2, Q2), (Q0, Q0), UNIT, UNIT)), (4, 4))
        self.assertEqual(counts_by(TIGHT_KIND, ((Q0, Q0), UNIT, UNIT)), (4, 4))
        self.assertEqual(counts_by(TIGHT_KIND, (UNIT, (Q1, Q1), ((-1, 1), (-1, 1)), UNIT)), (4, 4))

    def test_corners_have_ends_for_all_sides(self):
        box = BOX + ((Q1, Q2), (Q2, Q2))
        for corner in ends_by(TIGHT_KIND, box):
            self.assertIn(corner, corners_slowly(box))

    def test_as_of_forms(self):
        rng = Random(233)
        for kind in small_kinds():
            box = some_box(rng, 8)
            self.assertEqual(counts_by(kind, box), corner_counts(form_by(kind, 8), box))
            self.assertEqual(span_by(kind, box), corner_span(form_by(kind, 8), box))


class Refused(unittest.TestCase):
    def test_boxes(self):
        for function in FUNCTIONS:
            check_refusals(self, function, {"kind": TIGHT_KIND, "box": BOX}, {"box": no_kind_boxes(3)})
            check_refusals(self, function, {"kind": ("first", Q0, Q1, PATH_TREE), "box": (UNIT,) * 4}, {"box": (BOX,)})
            check_refusals(self, function, {"kind": ("first", Q0, Q1, NESTED_TREE), "box": (UNIT,) * 7}, {"box": ((UNIT,) * 6,)})
            check_refusals(self, function, {"kind": BARE_KIND, "box": ()}, {"box": NOTHINGS + (0, (Q0,), (None,), [UNIT])})
            check_refusals(self, function, {"kind": GAP_KIND, "box": (UNIT,) * 40}, {"box": ((UNIT,) * 39,)})
            # The box ahead of a bent kind.
            check_refusals(self, function, {"kind": BENT_KIND, "box": (UNIT, UNIT)}, {"box": no_kind_boxes(2)})
            check_raises(self, Bent, {"which": 1}, function, BENT_KIND, (UNIT, UNIT))
            check_raises(self, Bent, {"which": 0}, function, SQUARE_KIND, (UNIT,) * 5)
