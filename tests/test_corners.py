import unittest
from random import Random

from sevenruns.boxes import corners_of
from sevenruns.corners import corner_counts, corner_ends, corner_span
from sevenruns.errors import Bent
from sevenruns.expanding import form_of
from tests.samples import BENT, MIXING, PAIRS, Q0, Q1, Q2, UNIT, check_raises, check_refusals, form_value, no_boxes, quot
from tests.samples import random_box, random_number

FUNCTIONS = (corner_span, corner_ends, corner_counts)


class Corners(unittest.TestCase):
    def test_examples(self):
        self.assertEqual(corner_span(form_of(MIXING), (UNIT, UNIT, UNIT)), ((0, 1), (1, 1)))
        self.assertEqual(corner_ends((2, (((0, 1), Q1),)), (UNIT, (Q1, Q1))), (((0, 1), (1, 1)), ((1, 1), (1, 1))))
        self.assertEqual(corner_counts((2, (((0, 1), Q1),)), (UNIT, UNIT)), (3, 1))

    def test_the_first_of_several_corners(self):
        self.assertEqual(corner_ends((2, (((0, 1), Q1),)), (UNIT, UNIT)), ((Q0, Q0), (Q1, Q1)))
        self.assertEqual(corner_ends((2, (((1,), Q1),)), (UNIT, UNIT)), ((Q0, Q0), (Q0, Q1)))
        self.assertEqual(corner_ends((2, (((0,), (-1, 1)),)), (UNIT, UNIT)), ((Q1, Q0), (Q0, Q0)))
        self.assertEqual(corner_ends((2, ()), (UNIT, UNIT)), ((Q0, Q0), (Q0, Q0)))

    def test_bare_forms_and_inputs_that_are_not_hung_on(self):
        self.assertEqual(corner_span((3, ()), (UNIT,) * 3), (Q0, Q0))
        self.assertEqual(corner_counts((3, (((), Q2),)), (UNIT,) * 3), (8, 8))
        self.assertEqual(corner_counts((3, (((1,), Q2),)), (UNIT,) * 3), (4, 4))
        self.assertEqual(corner_counts((3, (((1,), Q2),)), (UNIT, UNIT, (Q2, Q2))), (2, 2))
        self.assertEqual(corner_counts((1, (((0,), Q2),)), ((Q2, Q2),)), (1, 1))

    def test_as_gone_through(self):
        rng = Random(6)
        for _ in range(120):
            size = rng.randint(1, 4)
            lots = [tuple(which for which in range(size) if s >> which & 1) for s in range(2 ** size)]
            terms = [(lot, random_number(rng)) for lot in sorted(lots) if rng.random() < 0.6]
            form = (size, tuple(term for term in terms if term[1] != Q0))
            box = random_box(rng, size)
            corners = list(corners_of(box))
            values = [form_value(form, corner) for corner in corners]
            least, greatest = min(values), max(values)
            self.assertEqual(corner_span(form=form, box=box), (quot(least), quot(greatest)))
            self.assertEqual(corner_ends(form=form, box=box), (corners[values.index(least)], corners[values.index(greatest)]))
            self.assertEqual(corner_counts(form=form, box=box), (values.count(least), values.count(greatest)))

    def test_eight_wide_sides(self):
        form = (8, tuple(((which,), Q1) for which in range(8)))
        self.assertEqual(corner_span(form, (((-1, 1), Q1),) * 8), ((-8, 1), (8, 1)))

    def test_refused(self):
        for function in FUNCTIONS:
            check_refusals(self, function, {"form": PAIRS, "box": (UNIT,) * 3}, {"box": no_boxes(3)})
            check_refusals(self, function, {"form": BENT, "box": (UNIT,) * 2}, {"box": no_boxes(2)})
            check_raises(self, Bent, {"which": 1}, function, BENT, (UNIT, UNIT))
            check_raises(self, Bent, {"which": 0}, function, (1, (((0, 0), Q1),)), ((Q1, Q1),))
