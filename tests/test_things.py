import unittest

from sevenruns.things import is_box, is_bundle, is_integer, is_lot, is_number, is_point, is_quotient, is_span
from tests.samples import NO_QUOTIENTS, NO_SPANS, Q0, Q1, Q2, UNIT, Wrong, no_boxes, no_points

GREAT = 10 ** 900


class Things(unittest.TestCase):
    def check(self, function, right, wrong, *size):
        for thing in right:
            with self.subTest(function=function, thing=thing):
                self.assertIs(function(*size, thing), True)
        for thing in wrong:
            with self.subTest(function=function, thing=thing):
                self.assertIs(function(*size, thing), False)

    def test_example(self):
        self.assertEqual((is_quotient((2, 4)), is_quotient((True, 1)), is_lot(3, (0, 2))), (False, False, True))

    def test_integers_and_numbers(self):
        rest = (True, False, None, "1", (1,), [1], (), Wrong())
        self.check(is_integer, (0, 1, -1, GREAT, -GREAT), rest)
        self.check(is_number, (0, 1, GREAT), (-1, -GREAT) + rest)

    def test_quotients(self):
        right = (Q0, Q1, (-1, 1), (-3, 2), (GREAT, 1), (1, GREAT), (-GREAT, GREAT + 1))
        self.check(is_quotient, right, NO_QUOTIENTS + ((-2, 4), (0, -1), (3, -2), (1,), (), Wrong()))

    def test_spans(self):
        right = (UNIT, (Q0, Q0), ((-1, 1), (-1, 2)), ((1, 3), (1, 2)), ((-GREAT, 1), (GREAT, 1)))
        self.check(is_span, right, NO_SPANS + (((1, 2), (1, 3)), ((-1, 2), (-1, 1)), Wrong()))

    def test_lots(self):
        self.check(is_lot, ((), (0,), (0, 2), (0, 1, 2)),
                   ((0, 0), (1, 0), (3,), (-1,), (True,), (0, True), [0], 0, None, "0", ("0",), Wrong()), 3)

    def test_bundles(self):
        self.check(is_bundle, ((), (0,), (0, 0), (0, 1, 1, 2)),
                   ((1, 0), (3,), (-1,), (False, 0), (0, True), [0], 0, None, (None,), Wrong()), 3)

    def test_lots_and_bundles_of_size_nought(self):
        self.check(is_lot, ((),), ((0,),), 0)
        self.check(is_bundle, ((),), ((0,),), 0)

    def test_points(self):
        for size in (1, 2, 3):
            self.check(is_point, ((Q0,) * size, ((-1, 2),) * size), no_points(size) + (Wrong(),), size)
        self.check(is_point, ((),), ((Q0,),), 0)

    def test_boxes(self):
        for size in (1, 2, 3):
            self.check(is_box, ((UNIT,) * size, ((Q2, Q2),) * size), no_boxes(size) + (Wrong(),), size)
        self.check(is_box, ((),), ((UNIT,),), 0)
