import unittest
from itertools import product
from random import Random

from sevenruns.boxes import wide_sides
from sevenruns.corners import corner_span
from sevenruns.errors import Bent
from sevenruns.expanding import form_of
from sevenruns.formfacts import is_first
from sevenruns.losschecker import lets_loss
from sevenruns.losspapers import loss_paper, whole_box
from sevenruns.programs import degrees_of
from sevenruns.things import is_box, is_input, is_point
from sevenruns.tolds import told_span
from sevenruns.trues import exact_on
from sevenruns.verdicts import is_exact
from tests.loss_samples import BENT_ONES, BOX_ONES, NARROW_ONES, NOUGHT_ONES
from tests.samples import MIXED, MIXING, Q0, Q1, SPREAD, TIGHT, check_raises, check_refused, frac, plain_run, quot, random_program
from tests.verdict_samples import EXACT, FAULTY


def is_small(program):
    return max(degrees_of(program)) <= 8


def loses(program, box):
    """True if the told span of a program of first degree is not the true one, reckoned by all corners."""
    ends = [plain_run(program, corner)[-1] for corner in product(*box)]
    return told_span(program, box) != (quot(min(ends)), quot(max(ends)))


class LossPapers(unittest.TestCase):
    def check_bent(self, program, paper):
        word, point, which = paper
        self.assertEqual(word, "bent")
        self.assertTrue(is_point(program[0], point) and is_input(program[0], which))
        runs = [plain_run(program, point[:which] + (quot(frac(point[which]) + up),) + point[which + 1:])[-1] for up in range(3)]
        self.assertNotEqual(runs[0] + runs[2], 2 * runs[1])

    def check_box(self, program, paper):
        word, box = paper
        self.assertEqual(word, "box")
        self.assertTrue(is_box(program[0], box))
        self.assertEqual(len(wide_sides(box)), 1)
        self.assertTrue(loses(program, box))

    def check_whole(self, program):
        box = whole_box(program)
        self.assertTrue(is_box(program[0], box))
        self.assertTrue(all(end[1] == 1 for side in box for end in side))
        self.assertIn(len(wide_sides(box)), (1, 2))
        self.assertTrue(loses(program, box))
        return box

    def test_exact_ones(self):
        for program, _ in EXACT:
            if is_small(program):
                self.assertIsNone(loss_paper(program=program))
                self.assertIsNone(whole_box(program=program))

    def test_bent_ones(self):
        for program in BENT_ONES:
            paper = loss_paper(program)
            self.check_bent(program, paper)
            self.assertEqual(lets_loss(program, paper), "bent")

    def test_nought_ones(self):
        for program, line in NOUGHT_ONES:
            self.assertIs(is_first(form_of(program)), True)
            self.assertEqual(loss_paper(program), ("nought", line))
            self.assertEqual(lets_loss(program, ("nought", line)), "nought")
            check_refused(self, whole_box, {"program": program}, "program")

    def test_box_ones(self):
        for program in BOX_ONES:
            with self.subTest(program=program):
                paper = loss_paper(program)
                self.check_box(program, paper)
                self.assertEqual(lets_loss(program, paper), "box")
                self.assertEqual(lets_loss(program, ("box", self.check_whole(program))), "box")

    def test_boxes_between_neighbouring_numbers(self):
        wide = 0
        for program in NARROW_ONES:
            with self.subTest(program=program):
                self.check_box(program, loss_paper(program))
                wide += len(wide_sides(self.check_whole(program))) == 2
        self.assertGreater(wide, 5)

    def test_some_whole_box_needs_two_wide_sides(self):
        # (G6): on a box of whole ends with one wide side nothing is lost by the first narrow one.
        program = NARROW_ONES[0]
        for ends in product(range(-3, 4), repeat=2):
            for near, far in ((0, 1), (-2, 3), (2, 3), (-4, -1)):
                first = (((near, 1), (far, 1)), ((ends[0], 1),) * 2, ((ends[1], 1),) * 2)
                second = (((ends[0], 1),) * 2, ((near, 1), (far, 1)), ((ends[1], 1),) * 2)
                self.assertIs(exact_on(program, first), True)
                self.assertIs(exact_on(program, second), True)

    def test_faulty_ones(self):
        for program, _ in FAULTY:
            if is_small(program):
                self.assertIn(lets_loss(program, loss_paper(program)), ("bent", "nought", "box"))

    def test_by_chance(self):
        rng = Random(141)
        words = {}
        while min(words.values(), default=0) < 40 or len(words) < 4:
            program = random_program(rng, most_inputs=4, most_lines=8)
            if not is_small(program):
                continue
            paper = loss_paper(program)
            self.assertIs(paper is None, is_exact(program))
            word = paper[0] if paper else None
            words[word] = words.get(word, 0) + 1
            if word is None:
                self.assertIsNone(whole_box(program))
            elif word == "bent":
                self.check_bent(program, paper)
            elif word == "box":
                self.check_box(program, paper)
                self.check_whole(program)
                self.assertTrue(is_first(form_of(program)))
                self.assertEqual(told_span(program, paper[1]) == corner_span(form_of(program), paper[1]), False)
            else:
                self.assertEqual(lets_loss(program, paper), "nought")

    def test_programs_without_copies(self):
        self.assertIsNone(loss_paper((2, (("num", Q0), ("mul", 2, 2), ("sub", 3, 2)))))
        self.assertIsNone(whole_box((2, (("num", Q1),))))

    def test_whole_box_of_bent_ones(self):
        for program in BENT_ONES:
            with self.assertRaises(Bent):
                whole_box(program)
        check_raises(self, Bent, {"which": 1}, whole_box, (2, (("mul", 1, 1),)))
        # Bent ahead of the nought line.
        check_raises(self, Bent, {"which": 1}, whole_box, BENT_ONES[3])

    def test_refused(self):
        mixed = (3, TIGHT[1] + (("mix", (0, 0), (Q0, Q1, Q1, Q1)),))
        for function in (loss_paper, whole_box):
            for program in (MIXED, mixed, (1, (("mix", (0,), (Q0, Q1)),))):
                check_refused(self, function, {"program": program}, "program")

    def test_known_ones(self):
        for program in (SPREAD, MIXING):
            self.assertEqual(loss_paper(program)[0], "box")
