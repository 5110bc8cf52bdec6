import unittest
from random import Random

from sevenruns.runs import run_lines, run_of
from tests.samples import MIXED, MIXING, Q0, Q1, Q2, SPREAD, check_refusals, no_points, plain_run, quot, random_number
from tests.samples import random_program


class Runs(unittest.TestCase):
    def test_example(self):
        self.assertEqual(run_lines(MIXING, (Q0, Q1, Q2)), ((1, 1), (2, 1), (2, 1)))
        self.assertEqual(run_of(MIXED, (Q2, Q1)), (7, 1))

    def test_numbers_of_a_mix_belong_to_the_reads_by_their_bits(self):
        for s in range(8):
            numbers = tuple((1, 1) if k == s else (0, 1) for k in range(8))
            expected = 1
            for j, worth in enumerate((2, 3, 5)):
                expected *= worth if s // 2 ** j % 2 else 1
            program = (3, (("mix", (0, 1, 2), numbers),))
            self.assertEqual(run_of(program, ((2, 1), (3, 1), (5, 1))), (expected, 1))

    def test_a_mix_of_one_read_and_of_one_place_twice(self):
        self.assertEqual(run_of((1, (("mix", (0,), (Q1, Q2)),)), ((3, 1),)), (7, 1))
        self.assertEqual(run_of((1, (("mix", (0, 0), (Q1, Q1, Q1, Q1)),)), ((3, 1),)), (16, 1))
        self.assertEqual(run_of((1, (("mix", (0,) * 8, (Q0,) * 255 + (Q1,)),)), ((2, 1),)), (256, 1))

    def test_all_lines_also_those_that_nothing_reads(self):
        program = (1, (("num", (1, 2)), ("mul", 0, 0), ("sub", 1, 0)))
        self.assertEqual(run_lines(program, ((3, 1),)), ((1, 2), (9, 1), (-5, 2)))
        self.assertEqual(run_of(program, ((3, 1),)), (-5, 2))

    def test_as_reckoned_with_fractions(self):
        rng = Random(11)
        for _ in range(300):
            program = random_program(rng, words=("add", "sub", "mul", "num", "mix"))
            point = tuple(random_number(rng) for _ in range(program[0]))
            values = tuple(quot(value) for value in plain_run(program, point)[program[0]:])
            self.assertEqual(run_lines(program, point), values)
            self.assertEqual(run_of(program=program, point=point), values[-1])

    def test_many_inputs_and_lines(self):
        lines = tuple(("add", 39 + k, k % 40) for k in range(1, 201))
        program = (40, (("add", 0, 0),) + lines[:199])
        point = tuple((k, 1) for k in range(40))
        self.assertEqual(run_of(program, point), quot(plain_run(program, point)[-1]))

    def test_refused(self):
        for function in (run_of, run_lines):
            check_refusals(self, function, {"program": SPREAD, "point": (Q0, Q1, Q2)}, {"point": no_points(3)})
