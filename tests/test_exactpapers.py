import unittest
from random import Random

from sevenruns.copies import copies_of
from sevenruns.errors import NotExact
from sevenruns.exactchecker import lets_exact
from sevenruns.exactpapers import exact_paper
from sevenruns.programs import degrees_of
from tests.samples import MIXED, Q0, Q1, Q2, THRICE, TIGHT, check_raises, check_refusals, random_program
from tests.verdict_samples import EXACT, FAULTY, judged_slowly


class ExactPapers(unittest.TestCase):
    def test_example(self):
        self.assertEqual(exact_paper(THRICE), ((3, (0, 1), (1, 3)),))

    def test_exact_ones(self):
        for program, paper in EXACT:
            with self.subTest(program=program):
                self.assertEqual(exact_paper(program=program), paper)

    def test_faulty_ones(self):
        for program, (word, line, which) in FAULTY:
            check_raises(self, NotExact, {"word": word, "line": line, "which": which}, exact_paper, program)

    def test_rows_ascend(self):
        # The parts come by their lots, whatever stands first in the lines.
        program = (3, (("add", 2, 1), ("add", 3, 0), ("add", 4, 4)))
        self.assertEqual(exact_paper(program), ((2, (0,), Q1), (2, (1,), Q1), (2, (2,), Q1)))
        program = (4, (("mul", 1, 2), ("add", 4, 3), ("add", 5, 0), ("add", 6, 6), ("add", 7, 6)))
        self.assertEqual(exact_paper(program), ((3, (0,), Q1), (3, (1, 2), Q1), (3, (3,), Q1),
                                                (4, (0,), Q2), (4, (1, 2), Q2), (4, (3,), Q2)))

    def test_numbers_of_great_size(self):
        great = 10 ** 80
        program = (1, (("num", (great, 3)), ("mul", 1, 0), ("add", 2, 0)))
        self.assertEqual(exact_paper(program), ((2, (0,), (great, 3)),))

    def test_as_judged_slowly(self):
        rng = Random(52)
        many = 0
        while many < 400:
            program = random_program(rng, most_inputs=4, most_lines=7)
            if max(degrees_of(program)) <= 8 and len(copies_of(program)) <= 40:
                many += 1
                fault, rows = judged_slowly(program)
                if fault is None:
                    self.assertEqual(exact_paper(program), tuple(rows))
                    self.assertEqual(lets_exact(program, tuple(rows)), len(rows))
                else:
                    check_raises(self, NotExact, dict(zip(("word", "line", "which"), fault)), exact_paper, program)

    def test_refused(self):
        check_refusals(self, exact_paper, {"program": TIGHT}, {"program": (MIXED, (1, (("mix", (0,), (Q0, Q1)),)))})
