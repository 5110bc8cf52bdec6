import unittest
from random import Random

from sevenruns.copies import copies_of
from sevenruns.programs import degrees_of
from sevenruns.verdicts import fault_of, is_exact
from tests.samples import MIXED, MIXING, Q0, TIGHT, check_refusals, random_program
from tests.verdict_samples import EXACT, FAULTY, exact_by_shares, judged_slowly


class Verdicts(unittest.TestCase):
    def test_examples(self):
        self.assertEqual((fault_of(TIGHT), fault_of(MIXING), fault_of((1, (("sub", 0, 0),)))),
                         (None, ('sum', 2, 0), ('sum', 0, 0)))
        self.assertIs(fault_of((1, (("num", Q0), ("mul", 0, 0), ("mul", 1, 2)))) is None, True)

    def test_exact_ones(self):
        for program, _ in EXACT:
            with self.subTest(program=program):
                self.assertIsNone(fault_of(program))
                self.assertIs(is_exact(program=program), True)

    def test_faulty_ones(self):
        for program, fault in FAULTY:
            with self.subTest(program=program):
                self.assertEqual(fault_of(program=program), fault)
                self.assertIs(is_exact(program), False)

    def test_as_judged_slowly(self):
        rng = Random(51)
        verdicts = []
        while len(verdicts) < 600:
            program = random_program(rng, most_inputs=4, most_lines=7)
            if max(degrees_of(program)) <= 8 and len(copies_of(program)) <= 12:
                self.assertEqual(fault_of(program), judged_slowly(program)[0])
                self.assertIs(is_exact(program), exact_by_shares(program))
                verdicts.append(is_exact(program))
        # Both verdicts have been seen often.
        self.assertTrue(100 < sum(verdicts) < 500)

    def test_degrees_have_no_limit(self):
        squares = tuple(("mul", k, k) for k in range(38))
        self.assertEqual(fault_of((1, squares + (("add", 38, 0),))), ("mul", 0, 0))
        self.assertIsNone(fault_of((1, squares + (("num", Q0), ("mul", 38, 39)))))

    def test_refused(self):
        for function in (fault_of, is_exact):
            check_refusals(self, function, {"program": TIGHT}, {"program": (MIXED, (2, (("mul", 0, 0), MIXED[1][0], ("num", Q0))))})
