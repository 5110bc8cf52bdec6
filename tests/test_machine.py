import unittest
from random import Random

from sevenruns.errors import Trapped
from sevenruns.machine import run_code, trace_code
from sevenruns.widths import narrowed
from tests.code_samples import CODE, CODES, LOOSE, SQUARE_CODE, code_values, random_code, whole_point, width_slowly
from tests.samples import Q0, Q1, Q2, UNIT, check_raises, check_refusals, no_points, quot


def fitting_slowly(code, numbers):
    """The values of the rows ahead of the first that does not fit."""
    values = code_values(code, numbers)
    for k, row in enumerate(code[2]):
        if width_slowly(values[k]) > row[3]:
            return tuple(values[:k])
    return tuple(values)


class Machines(unittest.TestCase):
    def test_examples(self):
        self.assertEqual((run_code(CODE, ((3, 1), (2, 1))), trace_code(CODE, ((3, 1), (4, 1)))), ((3, 2), (3,)))
        check_raises(self, Trapped, {"row": 3}, run_code, narrowed(CODE, 3), ((3, 1), (3, 1)))

    def test_by_hand(self):
        self.assertEqual(run_code(code=CODE, point=((3, 1), (3, 1))), (3, 1))
        self.assertEqual(trace_code(code=CODE, point=((3, 1), (3, 1))), (3, 3, 9, 6))
        self.assertEqual(trace_code(CODE, (Q0, (-4, 1))), (0, -4, 0, 0))
        self.assertEqual(run_code(CODE, ((-3, 1), Q2)), (-3, 2))
        check_raises(self, Trapped, {"row": 0}, run_code, CODE, ((4, 1), (9, 1)))
        check_raises(self, Trapped, {"row": 1}, run_code, CODE, ((-4, 1), (-5, 1)))
        check_raises(self, Trapped, {"row": 2}, run_code, CODE, ((-4, 1), (-4, 1)))
        self.assertEqual(trace_code(CODE, ((-4, 1), (-4, 1))), (-4, -4))
        self.assertEqual(trace_code(CODE, ((4, 1), (9, 1))), ())

    def test_rows_that_no_row_reads(self):
        code = (1, 1, (("num", 4, 0, 3), ("in", 0, 0, 9)))
        check_raises(self, Trapped, {"row": 0}, run_code, code, (Q1,))
        self.assertEqual(trace_code(code, (Q1,)), ())
        code = (2, 1, (("in", 0, 0, 9), ("in", 1, 0, 2), ("add", 0, 0, 9)))
        check_raises(self, Trapped, {"row": 1}, run_code, code, (Q1, Q2))
        self.assertEqual((trace_code(code, (Q1, Q2)), run_code(code, (Q1, Q1))), ((1,), Q2))
        # Behind a product with nought they are run, too.
        code = (1, 3, (("num", 0, 0, 1), ("in", 0, 0, 1), ("mul", 0, 1, 1)))
        check_raises(self, Trapped, {"row": 1}, run_code, code, (Q1,))
        self.assertEqual(run_code(code, ((-1, 1),)), Q0)

    def test_bottoms(self):
        for bottom, top, value in ((1, 6, (6, 1)), (4, 6, (3, 2)), (3, 6, (2, 1)), (6, -4, (-2, 3)), (7, 0, (0, 1))):
            self.assertEqual(run_code((1, bottom, (("in", 0, 0, 9),)), ((top, 1),)), value)

    def test_as_slowly(self):
        rng = Random(781)
        for code in list(CODES) + [random_code(rng, first=False) for _ in range(300)]:
            for _ in range(10):
                numbers = tuple(rng.randint(-5, 5) for _ in range(code[0]))
                values = fitting_slowly(code, numbers)
                self.assertEqual(trace_code(code, whole_point(numbers)), values)
                if len(values) < len(code[2]):
                    check_raises(self, Trapped, {"row": len(values)}, run_code, code, whole_point(numbers))
                else:
                    self.assertEqual(run_code(code, whole_point(numbers)), quot(values[-1]) if code[1] == 1 else over_slowly(values[-1], code[1]))

    def test_long_codes_and_great_numbers(self):
        rows = (("in", 39, 0, 60),) + tuple(("add", k, k, 900) for k in range(399))
        self.assertEqual(run_code((40, 2, rows), (Q0,) * 39 + ((3, 1),)), (3 * 2 ** 398, 1))
        self.assertEqual(run_code(SQUARE_CODE, (Q2, Q1)), (8, 1))

    def test_refused(self):
        for function in (run_code, trace_code):
            check_refusals(self, function, {"code": CODE, "point": (Q0, Q1)}, {"point": no_points(2) + ((Q0, (1, 2)), ((-3, 2), Q1), (UNIT, Q0), (0, 1))})
            # Ahead of a row that does not fit.
            check_refusals(self, function, {"code": LOOSE, "point": (Q0, Q0, Q0)}, {"point": ((Q0, Q0, (99, 2)), (Q0, Q0))})


def over_slowly(top, bottom):
    """The quotient of two ints, by trying all divisors."""
    for divisor in range(bottom, 0, -1):
        if top % divisor == 0 and bottom % divisor == 0:
            return (top // divisor, bottom // divisor)
