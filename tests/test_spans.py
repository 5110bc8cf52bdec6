import unittest

from sevenruns.spans import holds, scaled_span, span_minus, span_plus, span_times, span_within, spans_apart
from tests.samples import NO_QUOTIENTS, NO_SPANS, Q0, Q1, Q2, UNIT, check_refusals, frac, quot

SOME = (UNIT, (Q0, Q0), (Q1, Q2), ((-1, 1), Q2), ((-3, 2), (-1, 2)), ((-2, 1), (-2, 1)), ((1, 3), (1, 2)),
        ((-10 ** 12, 1), (10 ** 12, 7)))


def inner(span):
    """The ends of a span and some quotients between them, as Fractions."""
    near, far = frac(span[0]), frac(span[1])
    return [near + (far - near) * k / 4 for k in range(5)]


class Spans(unittest.TestCase):
    def test_example(self):
        self.assertEqual(span_times(((-1, 1), Q2), ((-1, 1), Q2)), ((-2, 1), (4, 1)))
        self.assertEqual(scaled_span(UNIT, (-3, 2)), ((-3, 2), (0, 1)))
        self.assertIs(spans_apart(UNIT, (Q1, Q2)), False)

    def test_sums_differences_products(self):
        for one in SOME:
            for other in SOME:
                for function, reckon in ((span_plus, lambda a, b: a + b), (span_minus, lambda a, b: a - b),
                                         (span_times, lambda a, b: a * b)):
                    found = [reckon(a, b) for a in inner(one) for b in inner(other)]
                    self.assertEqual(function(one, other), (quot(min(found)), quot(max(found))))

    def test_scaled(self):
        for span in SOME:
            for quotient in (Q0, Q1, (-1, 1), (-3, 2), (1, 3)):
                found = [frac(quotient) * a for a in inner(span)]
                self.assertEqual(scaled_span(span, quotient), (quot(min(found)), quot(max(found))))

    def test_holds(self):
        self.assertEqual([holds(UNIT, q) for q in (Q0, Q1, (1, 2), (-1, 9), (9, 8))], [True, True, True, False, False])
        self.assertEqual([holds((Q1, Q1), q) for q in (Q0, Q1, Q2)], [False, True, False])

    def test_within_and_apart(self):
        self.assertIs(span_within((Q1, Q1), UNIT), True)
        self.assertIs(span_within(UNIT, UNIT), True)
        self.assertIs(span_within(UNIT, (Q1, Q1)), False)
        self.assertIs(span_within(UNIT, ((1, 9), Q2)), False)
        self.assertIs(spans_apart(UNIT, ((9, 8), Q2)), True)
        self.assertIs(spans_apart(((9, 8), Q2), UNIT), True)
        self.assertIs(spans_apart((Q1, Q1), UNIT), False)
        self.assertIs(spans_apart((Q0, Q2), (Q1, Q1)), False)
        for one in SOME:
            for other in SOME:
                a, b, c, d = frac(one[0]), frac(one[1]), frac(other[0]), frac(other[1])
                self.assertIs(span_within(one, other), c <= a and b <= d)
                self.assertIs(spans_apart(one, other), b < c or d < a)

    def test_refused(self):
        for function in (span_plus, span_minus, span_times, spans_apart):
            check_refusals(self, function, {"one": UNIT, "other": UNIT}, {"other": NO_SPANS})
        check_refusals(self, span_within, {"span": UNIT, "other": UNIT}, {"other": NO_SPANS})
        for function in (scaled_span, holds):
            check_refusals(self, function, {"span": UNIT, "quotient": Q1}, {"quotient": NO_QUOTIENTS})
