import unittest
from itertools import product
from random import Random

from sevenruns.copies import copies_of, run_copies
from sevenruns.tolds import told_span, told_spans
from tests.samples import MIXED, MIXING, Q0, Q1, Q2, SPREAD, TIGHT, UNIT, check_refusals, frac, no_boxes, plain_run, quot
from tests.samples import random_box, random_number, random_program

BOTH = ((-1, 1), (1, 1))


class Tolds(unittest.TestCase):
    def test_examples(self):
        self.assertEqual(told_spans(MIXING, (UNIT, UNIT, UNIT))[3:],
                         (((-1, 1), (1, 1)), ((-1, 1), (1, 1)), ((-1, 1), (2, 1))))
        self.assertEqual(told_span((1, (("mul", 0, 0),)), (((-1, 1), (1, 1)),)), ((-1, 1), (1, 1)))
        self.assertEqual(told_span(SPREAD, (BOTH, (Q1, Q1), ((-1, 1), (-1, 1)))), ((-2, 1), Q2))

    def test_all_places(self):
        box = (BOTH, UNIT, (Q2, Q2))
        self.assertEqual(told_spans(program=TIGHT, box=box), box + ((Q2, (3, 1)), ((-3, 1), (3, 1))))
        self.assertEqual(told_spans((1, (("num", Q2), ("sub", 0, 0))), (UNIT,)), (UNIT, (Q2, Q2), BOTH))
        self.assertIs(told_spans(TIGHT, box).__class__, tuple)

    def test_one_place_read_twice(self):
        self.assertEqual(told_span((1, (("sub", 0, 0),)), (UNIT,)), BOTH)
        self.assertEqual(told_span((1, (("add", 0, 0),)), (BOTH,)), ((-2, 1), Q2))
        self.assertEqual(told_span((1, (("mix", (0, 0), (Q0, Q0, Q0, Q1)),)), (BOTH,)), BOTH)
        self.assertEqual(told_span((1, (("mix", (0, 0), (Q0, Q1, (-1, 1), Q0)),)), (UNIT,)), BOTH)

    def test_mixes(self):
        self.assertEqual(told_span(MIXED, (BOTH, UNIT)), ((-2, 1), (4, 1)))
        self.assertEqual(told_span((1, (("mix", (0,), (Q1, (-2, 1))),)), (UNIT,)), ((-1, 1), Q1))
        self.assertEqual(told_span((2, (("mix", (0, 1), (Q0,) * 4),)), (UNIT, UNIT)), (Q0, Q0))
        eight = (8, (("mix", tuple(range(8)), (Q0,) * 255 + (Q1,)),))
        self.assertEqual(told_span(eight, (((-1, 1), Q2),) * 8), ((-128, 1), (256, 1)))

    def test_from_the_least_to_the_greatest_over_ends_of_copies(self):
        rng = Random(31)
        done = 0
        while done < 120:
            program = random_program(rng, words=("add", "sub", "mul", "num", "mix"))
            copies = copies_of(program)
            if len(copies) <= 7:
                box = random_box(rng, program[0])
                found = [frac(run_copies(program, ends)) for ends in product(*(box[which] for which in copies))]
                self.assertEqual(told_span(program=program, box=box), (quot(min(found)), quot(max(found))))
                self.assertEqual(told_spans(program, box)[-1], told_span(program, box))
                done += 1

    def test_it_holds_all_results(self):
        rng = Random(32)
        for _ in range(80):
            program = random_program(rng, words=("add", "sub", "mul", "num", "mix"))
            box = random_box(rng, program[0])
            spans = told_spans(program, box)
            for _ in range(5):
                point = [frac(near) + (frac(far) - frac(near)) * rng.randint(0, 4) / 4 for near, far in box]
                values = plain_run(program, [quot(entry) for entry in point])
                for span, value in zip(spans, values):
                    self.assertTrue(frac(span[0]) <= value <= frac(span[1]))

    def test_great_numbers(self):
        great = random_number(Random(1))[0] + 10 ** 80
        self.assertEqual(told_span((1, (("mul", 0, 0),)), (((-great, 1), (great, 1)),)), ((-great ** 2, 1), (great ** 2, 1)))

    def test_refused(self):
        for function in (told_spans, told_span):
            check_refusals(self, function, {"program": SPREAD, "box": (UNIT,) * 3}, {"box": no_boxes(3)})
