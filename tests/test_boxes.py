import unittest
from itertools import product

from sevenruns.boxes import corners_of, in_box, point_box, wide_sides, with_side
from tests.samples import NO_INPUTS, NO_QUOTIENTS, NO_SPANS, NOTHINGS, Q0, Q1, Q2, UNIT, check_refusals, no_points

THREE = (UNIT, (Q2, Q2), UNIT)


class Boxes(unittest.TestCase):
    def test_example(self):
        self.assertEqual(list(corners_of(THREE))[:3],
                         [((0, 1), (2, 1), (0, 1)), ((0, 1), (2, 1), (1, 1)), ((1, 1), (2, 1), (0, 1))])

    def test_corners_come_one_by_one(self):
        corners = corners_of((UNIT,) * 8)
        self.assertNotIsInstance(corners, (list, tuple))
        self.assertEqual(next(corners), (Q0,) * 8)
        self.assertEqual(next(corners), (Q0,) * 7 + (Q1,))

    def test_all_corners_in_their_sequence(self):
        for box in ((UNIT,), ((Q1, Q1),), (UNIT, ((-1, 2), Q2)), (UNIT, UNIT, (Q0, Q0), ((-3, 1), Q0)), (UNIT,) * 8):
            sides = [side if side[0] != side[1] else side[:1] for side in box]
            self.assertEqual(list(corners_of(box)), list(product(*sides)))
            self.assertEqual(len(list(corners_of(box=box))), 2 ** len(wide_sides(box)))

    def test_wide_sides(self):
        self.assertEqual(wide_sides(THREE), (0, 2))
        self.assertEqual(wide_sides(((Q1, Q1),)), ())
        self.assertEqual(wide_sides((UNIT,)), (0,))

    def test_in_box(self):
        self.assertIs(in_box(THREE, (Q0, Q2, Q1)), True)
        self.assertIs(in_box(THREE, ((1, 2), Q2, (1, 3))), True)
        self.assertIs(in_box(THREE, (Q0, Q1, Q1)), False)
        self.assertIs(in_box(THREE, ((-1, 9), Q2, Q1)), False)
        self.assertIs(in_box(THREE, (Q0, Q2, (9, 8))), False)

    def test_with_side(self):
        self.assertEqual(with_side(THREE, 1, UNIT), (UNIT, UNIT, UNIT))
        self.assertEqual(with_side((UNIT,), 0, (Q2, Q2)), ((Q2, Q2),))
        self.assertEqual(with_side(THREE, 2, (Q0, Q0)), (UNIT, (Q2, Q2), (Q0, Q0)))
        self.assertEqual(THREE, (UNIT, (Q2, Q2), UNIT))

    def test_point_box(self):
        self.assertEqual(point_box((Q1,)), ((Q1, Q1),))
        self.assertEqual(point_box((Q1, (-1, 2))), ((Q1, Q1), ((-1, 2), (-1, 2))))

    def test_refused(self):
        check_refusals(self, in_box, {"box": THREE, "point": (Q0, Q2, Q1)}, {"point": no_points(3)})
        check_refusals(self, with_side, {"box": THREE, "which": 1, "span": UNIT},
                       {"which": (3,) + NO_INPUTS, "span": NO_SPANS})
        no_lists = [(quotient,) for quotient in NO_QUOTIENTS] + [(Q1, quotient) for quotient in NO_QUOTIENTS]
        check_refusals(self, point_box, {"point": (Q1,)}, {"point": NOTHINGS + ((), 1, Q1, [Q1]) + tuple(no_lists)})
