import unittest

from sevenruns.codeclasses import Machine
from sevenruns.errors import Trapped
from sevenruns.machine import run_code, trace_code
from sevenruns.widths import guards_of
from tests.code_samples import BOX, CODE, CODES, SQUARE_CODE, whole_box_points, whole_point
from tests.kind_samples import HALF
from tests.samples import NOTHINGS, Q0, Q1, Wrong, check_raises, check_refusals, no_points


class Machines(unittest.TestCase):
    def test_as_the_functions(self):
        machine = Machine(code=CODE)
        for numbers in whole_box_points(BOX):
            point = whole_point(numbers)
            self.assertEqual((machine.run(point=point), machine.run(point)), (run_code(CODE, point),) * 2)
            self.assertEqual(machine.trace(point=point), trace_code(CODE, point))
        check_raises(self, Trapped, {"row": 1}, machine.run, ((3, 1), (4, 1)))
        self.assertEqual(machine.trace(((3, 1), (4, 1))), (3,))
        self.assertEqual(machine.run(((3, 1), (2, 1))), (3, 2))
        self.assertEqual((machine.widths(), machine.guards(width=3), machine.guards(5), machine.told()), ((3, 3, 5, 4), (2, 3), (), CODE))
        for code in CODES:
            self.assertEqual(Machine(code).widths(), tuple(row[3] for row in code[2]))
            self.assertEqual(Machine(code).told(), code)
            for width in (1, 3, 8, 40):
                self.assertEqual(Machine(code).guards(width), guards_of(code, width))

    def test_equal(self):
        for one in CODES:
            for other in CODES:
                self.assertIs(Machine(one) == Machine(other), one == other)
                self.assertIs(Machine(one) != Machine(other), one != other)
            for other in (one, None, True, (), "x", Wrong()):
                self.assertIs(Machine(one) == other, False)
        # One width, the size or the bottom alone make another code.
        for other in ((2, 2, CODE[2][:3] + (("sub", 2, 0, 5),)), (3, 2, CODE[2]), (2, 1, CODE[2])):
            self.assertIs(Machine(CODE) == Machine(other), False)

    def test_refused(self):
        check_refusals(self, Machine, {"code": CODE}, {"code": NOTHINGS + (1, (), CODE[:2], list(CODE), (2, 2, ()), (0, 2, CODE[2]), (2, 0, CODE[2]), (2, 2, list(CODE[2])),
                                                               (2, 2, CODE[2][2:]), (1, 2, CODE[2]), (2, 2, (("in", 0, 0, 0),)), (2, 2, (("in", 0, 0, True),)), Wrong())})
        machine = Machine(CODE)
        wrong = no_points(2) + ((Q0, HALF), (HALF, Q1))
        check_refusals(self, machine.run, {"point": (Q0, Q1)}, {"point": wrong})
        check_refusals(self, machine.trace, {"point": (Q0, Q1)}, {"point": wrong})
        check_refusals(self, Machine(SQUARE_CODE).guards, {"width": 1}, {"width": NOTHINGS + (0, -1, Q1)})
        self.assertEqual(machine, Machine(CODE))
