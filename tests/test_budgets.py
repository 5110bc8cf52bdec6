import unittest
from fractions import Fraction
from random import Random

from sevenruns.boxes import with_side
from sevenruns.budgets import budget_far, budget_near
from sevenruns.errors import Bent
from sevenruns.kindmaking import kind_of
from sevenruns.kindspans import span_by
from sevenruns.kindthings import lot_of
from sevenruns.pieces import pieces_of
from sevenruns.reachclasses import Reach
from tests.kind_samples import BARE_KIND, BENT_KIND, GAP_KIND, NESTED_TREE, NO_KINDS, PAIRS_KIND, SQUARE_KIND, TIGHT_KIND, corners_slowly
from tests.kind_samples import dense_form, no_kind_boxes, random_structured, small_kinds, some_box, value_slowly
from tests.samples import NOTHINGS, NO_SPANS, Q0, Q1, Q2, UNIT, Wrong, check_raises, check_refusals, check_refused, frac, quot
from tests.test_judging import NO_CHECKS

BOX = (((-1, 1), (2, 1)), UNIT, UNIT)
NESTED = ("first", Q0, (-1, 1), NESTED_TREE)
DIFFERENCE = ("first", Q0, Q1, ("sum", ((1, 0), (-1, 1))))


def no_inputs(many):
    return NOTHINGS + (-1, many, many + 5, Q0, (0,), "0")


def lines_slowly(kind, box, which):
    """The pairs of slope and number, Fractions, along which the kind goes with which, one for each corner of the others."""
    found = set()
    for corner in corners_slowly(with_side(box, which, (Q0, Q0))):
        low = value_slowly(kind, corner)
        high = value_slowly(kind, corner[:which] + (Q1,) + corner[which + 1:])
        found.add((high - low, low))
    return found


def budget_slowly(kind, box, which, span, far):
    """The budget of the far or near end, out of all corners of the other sides."""
    low, high = frac(span[0]), frac(span[1])
    start = frac(box[which][0 if far else 1])
    lines = [(slope if far else -slope, number + slope * start) for slope, number in lines_slowly(kind, box, which)]
    if not all(low <= number <= high for _, number in lines):
        return ("broken", Q0)
    room = [(high - number) / slope for slope, number in lines if slope > 0]
    room += [(low - number) / slope for slope, number in lines if slope < 0]
    if not room:
        return ("free", Q0)
    return ("to", quot(start + min(room) if far else start - min(room)))


def boxed_kinds(seed, many=120):
    rng = Random(seed)
    rows = [(kind, some_box(rng, 8)) for kind in small_kinds()] + [(NESTED, some_box(rng, 7)), (BARE_KIND, (UNIT, UNIT))]
    for _ in range(many):
        form = random_structured(rng, most=5)
        rows.append((kind_of(form), some_box(rng, form[0])))
    return rows + [(kind_of(dense_form(4)), some_box(rng, 4)) for _ in range(5)]


class Budgets(unittest.TestCase):
    def test_examples(self):
        self.assertEqual(budget_far(TIGHT_KIND, BOX, 0, ((-2, 1), (3, 1))), ("to", (3, 2)))
        self.assertEqual(budget_near(TIGHT_KIND, BOX, 0, ((-3, 1), (5, 1))), ("to", (-3, 2)))
        self.assertEqual(budget_far(TIGHT_KIND, BOX, 0, UNIT), ("broken", (0, 1)))
        self.assertEqual(budget_far(TIGHT_KIND, ((Q0, Q0), UNIT, UNIT), 2, UNIT), ("free", (0, 1)))

    def test_as_told_by_all_corners(self):
        rng = Random(251)
        found = {}
        for kind, box in boxed_kinds(252):
            for _ in range(4):
                which = rng.randrange(len(box))
                near, far = span_by(kind, box)
                span = (quot(frac(near) + Fraction(rng.randint(-4, 1), 2)), quot(frac(far) + Fraction(rng.randint(-1, 4), 2)))
                if frac(span[0]) > frac(span[1]):
                    continue
                up = budget_far(kind=kind, box=box, which=which, span=span)
                down = budget_near(kind=kind, box=box, which=which, span=span)
                self.assertEqual(up, budget_slowly(kind, box, which, span, True))
                self.assertEqual(down, budget_slowly(kind, box, which, span, False))
                for word in (up[0], down[0]):
                    found[word] = found.get(word, 0) + 1
        self.assertGreater(min(found.values()), 50)
        self.assertEqual(sorted(found), ["broken", "free", "to"])

    def test_where_the_end_that_goes_is_does_not_matter(self):
        for far in ((-1, 1), Q0, (100, 1)):
            box = with_side(BOX, 0, ((-1, 1), far))
            self.assertEqual(budget_far(TIGHT_KIND, box, 0, ((-2, 1), (3, 1))), ("to", (3, 2)))
        for near in ((-100, 1), Q0, Q2):
            box = with_side(BOX, 0, (near, Q2))
            self.assertEqual(budget_near(TIGHT_KIND, box, 0, ((-3, 1), (5, 1))), ("to", (-3, 2)))

    def test_the_other_end_stays(self):
        # In a product of unlike signs the near end may be what breaks, or what holds.
        self.assertEqual(budget_far(DIFFERENCE, (UNIT, UNIT), 1, ((-2, 1), Q1)), ("to", Q2))
        self.assertEqual(budget_far(DIFFERENCE, (UNIT, UNIT), 1, ((-2, 1), (1, 2))), ("broken", Q0))
        self.assertEqual(budget_near(DIFFERENCE, (UNIT, UNIT), 1, ((-2, 1), Q1)), ("to", Q0))
        self.assertEqual(budget_near(DIFFERENCE, (UNIT, UNIT), 1, ((-1, 1), (3, 1))), ("to", (-2, 1)))
        self.assertEqual(budget_near(DIFFERENCE, (UNIT, UNIT), 0, ((-3, 1), (3, 1))), ("to", (-2, 1)))

    def test_budgets_at_just_the_near_end(self):
        # All is used up where it begins, but nothing is broken.
        self.assertEqual(budget_far(("first", Q0, Q1, 0), ((Q2, (3, 1)),), 0, (Q0, Q2)), ("to", Q2))
        self.assertEqual(budget_near(("first", Q0, Q1, 0), ((Q1, Q2),), 0, (Q2, (3, 1))), ("to", Q2))
        self.assertEqual(budget_far(("first", Q0, Q1, 0), ((Q2, (3, 1)),), 0, (Q0, Q1)), ("broken", Q0))
        self.assertEqual(budget_far(("first", Q0, (-1, 1), 0), ((Q2, (3, 1)),), 0, ((-2, 1), Q1)), ("to", Q2))

    def test_inputs_on_which_it_does_not_hang(self):
        for box in ((UNIT,) * 4, (UNIT,) * 3 + ((Q1, Q1),)):
            for budget in (budget_far, budget_near):
                self.assertEqual(budget(TIGHT_KIND, box, 3, (Q0, Q2)), ("free", Q0))
                self.assertEqual(budget(TIGHT_KIND, box, 3, (Q0, Q1)), ("broken", Q0))
                self.assertEqual(budget(BARE_KIND, box, 3, ((-3, 1), Q0)), ("free", Q0))
                self.assertEqual(budget(BARE_KIND, (UNIT,), 0, UNIT), ("broken", Q0))

    def test_forty_sides(self):
        kind = ("first", Q0, Q1, ("product", tuple((Q0 if k else Q1, k) for k in range(40))))
        box = (((-2, 1), Q1),) * 40
        self.assertEqual(budget_far(kind, box, 39, ((-2 ** 41, 1), (2 ** 40, 1))), ("to", Q2))
        self.assertEqual(budget_near(GAP_KIND, (UNIT,) * 40, 0, ((-20, 1), (20, 1))), ("free", Q0))

    def test_refused(self):
        for function in (budget_far, budget_near):
            for kind, box in ((TIGHT_KIND, BOX), (BENT_KIND, (UNIT,) * 3)):
                check_refusals(self, function, {"kind": kind, "box": box, "which": 0, "span": UNIT},
                               {"box": no_kind_boxes(lot_of(kind)[-1] + 1), "which": no_inputs(3), "span": NO_SPANS})
            check_refusals(self, function, {"kind": BARE_KIND, "box": (UNIT,), "which": 0, "span": UNIT},
                           {"box": NOTHINGS, "which": no_inputs(1), "span": NO_SPANS})
            check_refused(self, function, {"kind": BARE_KIND, "box": (), "which": 0, "span": UNIT}, "which")
            check_raises(self, Bent, {"which": 1}, function, BENT_KIND, (UNIT, UNIT), 0, UNIT)


class Pieces(unittest.TestCase):
    def test_example(self):
        self.assertEqual(pieces_of(TIGHT_KIND, BOX, 0), (((-1, 1), (0, 1), (0, 1)), ((0, 1), (0, 1), (2, 1))))

    def test_as_told_by_all_corners(self):
        counts = {}
        for kind, box, which in [(kind, box, which) for kind, box in boxed_kinds(254) for which in range(len(box))]:
            pieces = pieces_of(kind=kind, box=box, which=which)
            counts[len(pieces)] = counts.get(len(pieces), 0) + 1
            lines = lines_slowly(kind, box, which)
            near = frac(box[which][0])

            def greatest(far):
                return max(number + slope * end for slope, number in lines for end in (near, far))

            rows = [[frac(entry) for entry in piece] for piece in pieces]
            self.assertEqual(rows[0][0], near)
            self.assertGreaterEqual(rows[0][2], 0)
            for one, other in zip(rows, rows[1:]):
                self.assertTrue(one[0] < other[0] and one[2] < other[2])
            for k, (start, value, slope) in enumerate(rows):
                stop = rows[k + 1][0] if k + 1 < len(rows) else start + 1000
                for far in (start, stop, (start + stop) / 2, start + (stop - start) / 9):
                    self.assertEqual(greatest(far), value + slope * (far - start))
        self.assertGreater(len(counts), 2)

    def test_by_hand(self):
        # Falling at first, then up beyond what was there; falling for ever; at once up; the same for all far ends.
        valley = ("first", Q0, Q1, ("product", ((Q0, 0), (Q0, 1))))
        sides = (((-2, 1), Q0), ((-1, 1), Q1))
        self.assertEqual(pieces_of(valley, sides, 0), (((-2, 1), Q2, Q0), (Q2, Q2, Q1)))
        self.assertEqual(pieces_of(valley, (((-2, 1), Q0), ((-2, 1), Q1)), 0), (((-2, 1), (4, 1), Q0), ((4, 1), (4, 1), Q1)))
        self.assertEqual(pieces_of(valley, (UNIT, ((-2, 1), (-1, 1))), 0), ((Q0, Q0, Q0),))
        self.assertEqual(pieces_of(valley, (UNIT, (Q1, Q2)), 0), ((Q0, Q0, Q2),))
        self.assertEqual(pieces_of(valley, (((-1, 1), Q0), (Q1, Q2)), 0), (((-1, 1), (-1, 1), Q1), (Q0, Q0, Q2)))
        self.assertEqual(pieces_of(DIFFERENCE, (UNIT, UNIT), 1), ((Q0, Q1, Q0),))
        self.assertEqual(pieces_of(DIFFERENCE, (UNIT, UNIT), 0), ((Q0, Q0, Q1),))
        # Three slopes: at the near end two lines meet, of which the one that goes up counts.
        knot = ("first", Q0, Q1, PAIRS_KIND[3])
        self.assertEqual(pieces_of(knot, (UNIT, (Q0, Q1), (Q0, Q1)), 0), ((Q0, Q1, Q2),))
        self.assertEqual(pieces_of(knot, (((-2, 1), Q0), UNIT, UNIT), 0), (((-2, 1), Q0, Q0), ((-1, 2), Q0, Q2)))
        self.assertEqual(pieces_of(valley, ((Q0, Q0), ((-1, 1), Q1)), 0), ((Q0, Q0, Q1),))
        self.assertEqual(pieces_of(("first", Q0, Q1, 0), ((Q2, Q2),), 0), ((Q2, Q2, Q1),))

    def test_inputs_on_which_it_does_not_hang(self):
        self.assertEqual(pieces_of(TIGHT_KIND, BOX + ((Q1, Q2),), 3), ((Q1, (4, 1), Q0),))
        self.assertEqual(pieces_of(BARE_KIND, (UNIT, (Q1, Q1)), 1), ((Q1, (-5, 2), Q0),))

    def test_refused(self):
        for kind, box in ((TIGHT_KIND, BOX), (BENT_KIND, (UNIT,) * 3)):
            check_refusals(self, pieces_of, {"kind": kind, "box": box, "which": 0},
                           {"box": no_kind_boxes(lot_of(kind)[-1] + 1), "which": no_inputs(3)})
        check_refused(self, pieces_of, {"kind": BARE_KIND, "box": (), "which": 0}, "which")
        check_raises(self, Bent, {"which": 0}, pieces_of, SQUARE_KIND, (UNIT,), 0)


class Reaches(unittest.TestCase):
    def test_what_it_tells(self):
        reach = Reach(TIGHT_KIND, BOX)
        self.assertEqual(reach.span(), ((-2, 1), (4, 1)))
        self.assertEqual(reach.ends(), (((-1, 1), Q1, Q1), (Q2, Q1, Q1)))
        self.assertEqual(reach.counts(), (1, 1))
        self.assertEqual(reach.judged(("below", (4, 1))), "sometimes")
        self.assertEqual(reach.judged(check=("above", (4, 1))), "never")
        self.assertEqual(reach.judged(("is", (4, 1))), "sometimes")
        self.assertEqual(reach.judged(("inside", ((-2, 1), (4, 1)))), "always")
        self.assertEqual(reach.budget(0, ((-2, 1), (3, 1))), ("to", (3, 2)))
        self.assertEqual(reach.budget(which=0, span=UNIT), ("broken", Q0))
        self.assertEqual(Reach(TIGHT_KIND, BOX).with_side(0, UNIT).counts(), (5, 1))
        self.assertEqual(Reach(BARE_KIND, ()).span(), ((-5, 2), (-5, 2)))

    def test_with_side_makes_a_new_one(self):
        reach = Reach(kind=TIGHT_KIND, box=BOX)
        other = reach.with_side(which=0, span=UNIT)
        self.assertIsInstance(other, Reach)
        self.assertIsNot(other, reach)
        self.assertEqual(reach.span(), ((-2, 1), (4, 1)))
        self.assertEqual(other.span(), (Q0, Q2))
        self.assertIs(other == Reach(TIGHT_KIND, (UNIT, UNIT, UNIT)), True)
        self.assertIs(reach == Reach(TIGHT_KIND, BOX), True)
        self.assertIs(reach.with_side(1, UNIT) == reach, True)
        self.assertIs(reach.with_side(1, UNIT) is reach, False)

    def test_equal(self):
        self.assertIs(Reach(TIGHT_KIND, BOX) == Reach(TIGHT_KIND, BOX), True)
        self.assertIs(Reach(TIGHT_KIND, BOX) != Reach(TIGHT_KIND, BOX), False)
        self.assertIs(Reach(TIGHT_KIND, BOX) == Reach(TIGHT_KIND, BOX + (UNIT,)), False)
        self.assertIs(Reach(TIGHT_KIND, BOX) == Reach(PAIRS_KIND, BOX), False)
        for other in (BOX, TIGHT_KIND, (TIGHT_KIND, BOX), None, True, Wrong(), Reach):
            self.assertIs(Reach(TIGHT_KIND, BOX) == other, False)

    def test_refused(self):
        for kind in NO_KINDS:
            for box in (BOX, None, ()):
                check_refused(self, Reach, {"kind": kind, "box": box}, "kind")
        for kind in (TIGHT_KIND, BENT_KIND):
            for box in no_kind_boxes(lot_of(kind)[-1] + 1):
                check_refused(self, Reach, {"kind": kind, "box": box}, "box")
        check_raises(self, Bent, {"which": 1}, Reach, BENT_KIND, (UNIT, UNIT))
        reach = Reach(TIGHT_KIND, BOX)
        check_refusals(self, reach.judged, {"check": ("is", Q1)}, {"check": NO_CHECKS})
        for method in (reach.budget, reach.with_side):
            check_refusals(self, method, {"which": 0, "span": UNIT}, {"which": no_inputs(3), "span": NO_SPANS})
        check_refused(self, Reach(BARE_KIND, ()).with_side, {"which": 0, "span": UNIT}, "which")
