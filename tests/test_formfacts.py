import unittest

from sevenruns.formfacts import coefficient, degree_in, hangs_on, is_first
from tests.samples import BENT, NO_INPUTS, PAIRS, Q0, Q1, Q2, check_refusals

NOUGHT = (3, ())
BARE = (3, (((), Q2),))


class FormFacts(unittest.TestCase):
    def test_example(self):
        self.assertEqual(degree_in((2, (((0, 1, 1), Q2), ((1,), Q1))), 1), 2)

    def test_hangs_on(self):
        self.assertEqual(hangs_on(PAIRS), (0, 1, 2))
        self.assertEqual(hangs_on(form=BENT), (0, 1))
        self.assertEqual(hangs_on((5, (((1, 3, 3), Q1), ((3,), Q1)))), (1, 3))
        self.assertEqual(hangs_on(NOUGHT), ())
        self.assertEqual(hangs_on(BARE), ())

    def test_degree_in(self):
        form = (4, (((), Q1), ((0, 0, 0), Q1), ((0, 1), Q1), ((1, 1), Q1)))
        self.assertEqual([degree_in(form=form, which=which) for which in range(4)], [3, 2, 0, 0])
        self.assertEqual(degree_in(NOUGHT, 2), 0)

    def test_is_first(self):
        for form in (PAIRS, NOUGHT, BARE, (8, ((tuple(range(8)), Q1),))):
            self.assertIs(is_first(form), True)
        for form in (BENT, (1, (((0, 0), Q1),)), (3, (((0, 1, 2, 2), Q1), ((0, 2), Q1)))):
            self.assertIs(is_first(form=form), False)

    def test_coefficient(self):
        form = (2, (((), (-1, 2)), ((0, 1), Q2), ((0, 1, 1), Q1)))
        for bundle, quotient in (((), (-1, 2)), ((0, 1), Q2), ((0, 1, 1), Q1), ((0,), Q0), ((1, 1), Q0), ((0,) * 9, Q0)):
            self.assertEqual(coefficient(form=form, bundle=bundle), quotient)
        self.assertEqual(coefficient(NOUGHT, ()), Q0)

    def test_refused(self):
        check_refusals(self, degree_in, {"form": BENT, "which": 1}, {"which": (2,) + NO_INPUTS})
        wrong = (None, True, 0, (2,), (-1,), (1, 0), [0], ("0",), (0, True), (False,), Q2, "01")
        check_refusals(self, coefficient, {"form": BENT, "bundle": (0,)}, {"bundle": wrong})
