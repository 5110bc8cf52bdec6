import unittest

from sevenruns.codethings import is_code
from sevenruns.widths import fits, guards_of, narrowed, width_for
from tests.code_samples import CODE, CODES, LOOSE, width_slowly
from tests.samples import NOTHINGS, Q1, check_refusals

NO_INTEGERS = NOTHINGS + (Q1, (0,), "0", 1.0)
NO_WIDTHS = NO_INTEGERS + (0, -1, -7)
BESIDE_POWERS = sorted({sign * 2 ** k + beside for k in range(41) for beside in (-2, -1, 0, 1) for sign in (1, -1)})


class Widths(unittest.TestCase):
    def test_example(self):
        self.assertEqual((width_for(-1, 0), width_for(0, 1), width_for(-3, 6), fits(3, 4)), (1, 2, 4, False))

    def test_by_hand(self):
        for low, high, width in ((0, 0, 1), (-1, -1, 1), (-1, 0, 1), (1, 1, 2), (-2, -2, 2), (-2, 1, 2), (-2, 2, 3), (-3, -1, 3), (3, 3, 3), (4, 4, 4), (-4, -4, 3),
                                 (-5, 0, 4), (7, 7, 4), (8, 8, 5), (-8, 7, 4), (-9, 7, 5), (-8, 8, 5), (10 ** 12, 10 ** 12, 41), (-2 ** 40, 0, 41), (0, 2 ** 40, 42)):
            self.assertEqual(width_for(low=low, high=high), width)

    def test_beside_powers_of_two(self):
        for value in BESIDE_POWERS:
            width = width_slowly(value)
            self.assertEqual(width_for(value, value), width)
            for tried in (width - 1, width, width + 1, 1, 2, 60):
                if tried >= 1:
                    self.assertIs(fits(width=tried, integer=value), -2 ** (tried - 1) <= value < 2 ** (tried - 1))

    def test_two_values(self):
        for low in range(-20, 21):
            for high in range(low, 21):
                self.assertEqual(width_for(low, high), width_slowly(low, high))
        for low, high in zip(BESIDE_POWERS, BESIDE_POWERS[5:]):
            self.assertEqual(width_for(low, high), width_slowly(low, high))

    def test_refused(self):
        check_refusals(self, width_for, {"low": -3, "high": 6}, {"low": NO_INTEGERS, "high": NO_INTEGERS + (-4, -10 ** 12)})
        check_refusals(self, width_for, {"low": 2, "high": 2}, {"high": (1, True)})
        check_refusals(self, fits, {"width": 3, "integer": 4}, {"width": NO_WIDTHS, "integer": NO_INTEGERS})


class Guards(unittest.TestCase):
    def test_example(self):
        self.assertEqual((guards_of(CODE, 3), narrowed(CODE, 3)[2][3]), ((2, 3), ("sub", 2, 0, 3)))

    def test_guards(self):
        for code in CODES:
            for width in range(1, 32):
                self.assertEqual(guards_of(code=code, width=width), tuple(k for k, row in enumerate(code[2]) if row[3] > width))
        self.assertEqual((guards_of(CODE, 1), guards_of(CODE, 5), guards_of(CODE, 10 ** 12)), ((0, 1, 2, 3), (), ()))

    def test_narrowed(self):
        for code in CODES:
            for row, own in enumerate(code[2]):
                if own[3] > 1:
                    found = narrowed(code=code, row=row)
                    self.assertTrue(is_code(found))
                    self.assertEqual(found, (code[0], code[1], code[2][:row] + (own[:3] + (own[3] - 1,),) + code[2][row + 1:]))
        self.assertEqual(narrowed((1, 1, (("in", 0, 0, 2),)), 0), (1, 1, (("in", 0, 0, 1),)))

    def test_refused(self):
        check_refusals(self, guards_of, {"code": CODE, "width": 3}, {"width": NO_WIDTHS})
        check_refusals(self, narrowed, {"code": CODE, "row": 3}, {"row": NO_INTEGERS + (-1, 4, 10 ** 12)})
        # Rows whose width is 1.
        check_refusals(self, narrowed, {"code": LOOSE, "row": 0}, {"row": (2, 5, 10, True)})
        check_refusals(self, narrowed, {"code": (1, 1, (("in", 0, 0, 2), ("in", 0, 0, 1))), "row": 0}, {"row": (1, False)})
