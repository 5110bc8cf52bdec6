import unittest
from random import Random

from sevenruns.carrying import carried_of, counting_of, numbers_of
from sevenruns.programs import is_plain
from sevenruns.runs import run_lines
from tests.samples import HIDDEN, MIXED, MIXING, Q0, Q1, Q2, SPREAD, check_refusals, random_number, random_program

FUNCTIONS = (carried_of, numbers_of, counting_of)


class Carrying(unittest.TestCase):
    def test_example(self):
        self.assertEqual((carried_of(HIDDEN), numbers_of(HIDDEN), counting_of(HIDDEN)),
                         (((), (0, 1), (), (1,)), ((0, 1), None, (0, 1), None), (0, 2, 3)))

    def check(self, program, carried, numbers, counting):
        self.assertEqual(carried_of(program), carried)
        self.assertEqual(numbers_of(program=program), numbers)
        self.assertEqual(counting_of(program), counting)

    def test_plain_cases(self):
        self.check(SPREAD, ((0, 1), (0, 2), (0, 1, 2)), (None,) * 3, (0, 1, 2))
        self.check(MIXING, ((0, 1), (0, 1, 2), (0, 1, 2)), (None,) * 3, (0, 1, 2))
        self.check((1, (("num", Q2),)), ((),), (Q2,), (0,))

    def test_reckoned_numbers(self):
        program = (1, (("num", Q1), ("add", 1, 1), ("sub", 2, 1), ("mul", 2, 2), ("sub", 1, 1), ("add", 0, 4)))
        self.check(program, ((), (), (), (), (), (0,)), (Q1, Q2, Q1, (4, 1), Q0, None), (0, 1, 3, 5))

    def test_a_line_that_is_nought_is_not_void(self):
        self.check((2, (("sub", 0, 0), ("mul", 2, 1))), ((0,), (0, 1)), (None, None), (0, 1))

    def test_one_read_void(self):
        void = ("sub", 2, 2)
        self.check((2, (("num", Q1), void, ("mul", 0, 3))), ((), (), ()), (Q1, Q0, Q0), (0, 1, 2))
        self.check((2, (("num", Q1), void, ("mul", 3, 0))), ((), (), ()), (Q1, Q0, Q0), (0, 1, 2))
        # The void read lets nothing of the other one through.
        self.check((2, (("num", Q0), ("add", 0, 1), ("mul", 3, 2))), ((), (0, 1), ()), (Q0, None, Q0), (0, 2))

    def test_both_reads_void(self):
        self.check((1, (("num", Q0), ("mul", 1, 1))), ((), ()), (Q0, Q0), (1,))
        self.check((1, (("num", Q0), ("num", Q0), ("mul", 1, 2), ("add", 3, 0))), ((), (), (), (0,)),
                   (Q0, Q0, Q0, None), (2, 3))

    def test_a_read_may_count_by_another_line(self):
        program = (1, (("num", Q0), ("mul", 1, 0), ("mul", 1, 1), ("add", 2, 3), ("add", 4, 0)))
        self.check(program, ((), (), (), (), (0,)), (Q0, Q0, Q0, Q0, None), (0, 1, 2, 3, 4))

    def test_lines_that_nothing_reads(self):
        self.check((1, (("mul", 0, 0), ("num", Q2), ("add", 0, 0))), ((0,), (), (0,)), (None, Q2, None), (2,))

    def test_a_mul_of_one_place_twice(self):
        self.check((1, (("add", 0, 0), ("mul", 1, 1))), ((0,), (0,)), (None, None), (0, 1))

    def test_a_value_stays_if_only_inputs_that_are_not_carried_change(self):
        rng = Random(5)
        for _ in range(200):
            program = random_program(rng, most_lines=6)
            point = tuple(random_number(rng) for _ in range(program[0]))
            before = run_lines(program, point)
            carried, numbers = carried_of(program), numbers_of(program)
            for which in range(program[0]):
                after = run_lines(program, point[:which] + ((7, 3),) + point[which + 1:])
                for k, lot in enumerate(carried):
                    if which not in lot:
                        self.assertEqual(before[k], after[k])
                    self.assertEqual(numbers[k], None if lot else before[k])

    def test_only_plain_programs(self):
        self.assertIs(is_plain(MIXED), False)
        for function in FUNCTIONS:
            check_refusals(self, function, {"program": SPREAD}, {"program": (MIXED,)})
