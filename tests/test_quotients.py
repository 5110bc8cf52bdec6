import unittest
from fractions import Fraction

from sevenruns.quotients import less, minus, over, plus, quotient_of, times
from tests.samples import NO_QUOTIENTS, NOTHINGS, Q0, Q1, Q2, check_refusals, frac, quot

SOME = (Q0, Q1, Q2, (-1, 1), (1, 2), (-3, 2), (2, 3), (-5, 6), (10 ** 12, 7), (-7, 10 ** 12), (10 ** 400 + 1, 10 ** 300))


class Quotients(unittest.TestCase):
    def test_example(self):
        self.assertEqual((quotient_of(6, -4), over((1, 2), (-3, 1)), less((1, 2), Q1)), ((-3, 2), (-1, 6), True))

    def test_quotient_of(self):
        for top in (-12, -7, -1, 0, 1, 6, 10 ** 80):
            for bottom in (-8, -3, -1, 1, 4, 10 ** 80):
                self.assertEqual(quotient_of(top, bottom), quot(Fraction(top, bottom)))
        self.assertEqual(quotient_of(0, -5), Q0)

    def test_reckoning(self):
        for one in SOME:
            for other in SOME:
                self.assertEqual(plus(one, other), quot(frac(one) + frac(other)))
                self.assertEqual(minus(one, other), quot(frac(one) - frac(other)))
                self.assertEqual(times(one, other), quot(frac(one) * frac(other)))
                self.assertIs(less(one, other), frac(one) < frac(other))
                if other != Q0:
                    self.assertEqual(over(one, other), quot(frac(one) / frac(other)))

    def test_refused(self):
        no_integers = NOTHINGS + (Q1, (1,))
        check_refusals(self, quotient_of, {"top": 1, "bottom": 2}, {"top": no_integers, "bottom": (0,) + no_integers})
        for function in (plus, minus, times, less):
            check_refusals(self, function, {"one": Q1, "other": Q2}, {"other": NO_QUOTIENTS})
        check_refusals(self, over, {"one": Q1, "other": Q2}, {"other": (Q0,) + NO_QUOTIENTS})
