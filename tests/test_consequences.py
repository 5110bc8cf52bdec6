"""Consequences [22] and [32], and the guarantees (G1), (G2), (G3), (G5), at programs written by hand and others."""

import unittest
from itertools import product
from random import Random

from sevenruns.bends import bend_paper, lets_bend
from sevenruns.boxes import corners_of, wide_sides
from sevenruns.copies import copies_of, copy_change, run_copies
from sevenruns.corners import corner_span
from sevenruns.expanding import form_of
from sevenruns.formfacts import coefficient, hangs_on, is_first
from sevenruns.formruns import step_of, value_of
from sevenruns.forms import bare_form, form_plus
from sevenruns.formtexts import form_line, read_form
from sevenruns.linked import linked_parts, part_of
from sevenruns.programs import degrees_of
from sevenruns.quotients import minus, plus
from sevenruns.runs import run_of
from sevenruns.spans import holds, span_minus, span_plus, span_times
from sevenruns.spreads import spread_of
from sevenruns.tolds import told_span
from sevenruns.trues import exact_on
from sevenruns.verdicts import is_exact
from tests.samples import MIXED, Q0, Q1, Q2, frac, quot, random_box, random_number, random_program
from tests.test_forms import random_form
from tests.test_formruns import up
from tests.verdict_samples import EXACT, FAULTY, exact_by_shares

WORDS = ("add", "sub", "mul", "num", "mix", "add", "mul")


def is_small(program):
    return max(degrees_of(program)) <= 8 and len(copies_of(program)) <= 8


BY_HAND = [program for program, _ in EXACT + FAULTY if is_small(program)]
EXACT_BY_HAND = [program for program, _ in EXACT if is_small(program)]
# Exact ones, and one that is not, with a mix: of x0 the average of both copies, and x0 once more than it should be.
MIXES = [MIXED, (1, (("mix", (0, 0), (Q0, (1, 2), (1, 2), Q0)),)), (1, (("mix", (0, 0), (Q0, Q2, (-1, 1), Q0)),))]


def small_programs(many, seed, words=WORDS):
    rng = Random(seed)
    found = []
    while len(found) < many:
        program = random_program(rng, words=words)
        if is_small(program):
            found.append(program)
    return found


def points_in(box, rng, many):
    for _ in range(many):
        yield tuple(quot(frac(near) + (frac(far) - frac(near)) * rng.randint(0, 4) / 4) for near, far in box)


class Values(unittest.TestCase):
    def test_ends_of_spans_are_made_of_ends(self):
        rng = Random(71)
        for _ in range(100):
            one, other = random_box(rng, 2)
            for function, reckon in ((span_plus, lambda a, b: a + b), (span_minus, lambda a, b: a - b),
                                     (span_times, lambda a, b: a * b)):
                made = [quot(reckon(frac(a), frac(b))) for a in one for b in other]
                self.assertTrue(all(end in made for end in function(one, other)))

    def test_a_box_has_as_many_corners_as_its_wide_sides_tell(self):
        rng = Random(72)
        for _ in range(50):
            box = random_box(rng, rng.randint(1, 6))
            self.assertEqual(len(set(corners_of(box))), 2 ** len(wide_sides(box)))


class Forms(unittest.TestCase):
    def test_the_form_has_the_results(self):
        rng = Random(73)
        for program in BY_HAND + MIXES + small_programs(100, 74):
            form = form_of(program)
            self.assertEqual(read_form(form_line(form)), form)
            for _ in range(5):
                point = tuple(random_number(rng) for _ in range(program[0]))
                self.assertEqual(value_of(form, point), run_of(program, point))

    def test_steps_tell_changes(self):
        rng = Random(75)
        for program in BY_HAND + MIXES:
            form = form_of(program)
            if is_first(form):
                for which in range(program[0]):
                    point = tuple(random_number(rng) for _ in range(program[0]))
                    change = minus(value_of(form, up(point, which)), value_of(form, point))
                    self.assertEqual(value_of(step_of(form, which), point), change)

    def test_parts_make_the_form_and_corners_hold_its_values(self):
        rng = Random(76)
        forms = [form for form in (random_form(rng, rng.randint(1, 4)) for _ in range(200)) if is_first(form)]
        self.assertGreater(len(forms), 30)
        for form in forms:
            whole = bare_form(form[0], coefficient(form, ()))
            for lot in linked_parts(form):
                whole = form_plus(whole, part_of(form, lot))
            self.assertEqual(whole, form)
            box = random_box(rng, form[0])
            for point in points_in(box, rng, 8):
                self.assertTrue(holds(corner_span(form, box), value_of(form, point)))


class Copies(unittest.TestCase):
    def test_told_spans_are_those_of_copies(self):
        rng = Random(77)
        for program in BY_HAND + MIXES + small_programs(60, 78):
            box = random_box(rng, program[0])
            copies = copies_of(program)
            results = [frac(run_copies(program, ends)) for ends in product(*(box[which] for which in copies))]
            # (G1)
            self.assertEqual(told_span(program, box), (quot(min(results)), quot(max(results))))
            for point in points_in(box, rng, 5):
                self.assertTrue(holds(told_span(program, box), run_of(program, point)))
                self.assertEqual(run_copies(program, tuple(point[which] for which in copies)), run_of(program, point))

    def test_the_form_over_copies(self):
        rng = Random(79)
        for program in BY_HAND + MIXES + small_programs(60, 80):
            copies = copies_of(program)
            if copies:
                spread = spread_of(program)
                self.assertIs(is_first(spread), True)
                for _ in range(5):
                    numbers = tuple(random_number(rng) for _ in copies)
                    self.assertEqual(value_of(spread, numbers), run_copies(program, numbers))


class Guarantees(unittest.TestCase):
    def test_bends_are_never_exact(self):
        # (G2): the told span is that of an exact program only if it is the true one on all boxes.
        bent = [program for program in BY_HAND + MIXES + small_programs(150, 81) if not is_first(form_of(program))]
        self.assertGreater(len(bent), 20)
        for program in bent:
            paper = bend_paper(form_of(program))
            self.assertNotEqual(lets_bend(program, paper), Q0)
            if all(line[0] != "mix" for line in program[1]):
                self.assertIs(is_exact(program), False)
        for program in EXACT_BY_HAND:
            self.assertIs(is_first(form_of(program)), True)
            self.assertIsNone(bend_paper(form_of(program)))

    def test_shares_of_exact_programs(self):
        # (G3), and for the mix that is an average.
        rng = Random(82)
        for program in EXACT_BY_HAND + MIXES[1:2]:
            form, copies = form_of(program), copies_of(program)
            points = [tuple((rng.randint(-9, 9), rng.choice((1, 7))) for _ in range(program[0])) for _ in range(6)]
            points = [tuple(quot(frac(entry)) for entry in point) for point in points]
            for which in hangs_on(form):
                steps = [value_of(step_of(form, which), point) for point in points]
                shares = []
                for copy in [copy for copy in range(len(copies)) if copies[copy] == which]:
                    changes = [copy_change(program, point, copy) for point in points]
                    found = {frac(change) / frac(step) for change, step in zip(changes, steps) if step != Q0}
                    self.assertEqual(len(found), 1)
                    self.assertTrue(all(change == Q0 for change, step in zip(changes, steps) if step == Q0))
                    shares.extend(found)
                self.assertEqual(sum(shares), 1)
                self.assertTrue(min(shares) >= 0)

    def test_exact_by_shares_and_by_lines(self):
        # (G3) beside (G5).
        for program in BY_HAND:
            self.assertIs(exact_by_shares(program), is_exact(program))
            self.assertIs(is_exact(program), program in EXACT_BY_HAND)

    def test_exact_ones_lose_nothing_on_any_box(self):
        rng = Random(83)
        exact = EXACT_BY_HAND + [program for program in small_programs(300, 84, ("add", "sub", "mul", "num")) if is_exact(program)]
        self.assertGreater(len(exact), 60)
        for program in exact:
            for _ in range(6):
                self.assertIs(exact_on(program, random_box(rng, program[0])), True)

    def test_others_lose_something_on_some_box(self):
        ends = [((a, 1), (b, 1)) for a in range(-2, 3) for b in range(a, 3)]
        programs = [program for program, _ in FAULTY if is_small(program) and is_first(form_of(program))]
        self.assertGreater(len(programs), 8)
        for program in programs:
            boxes = product(ends, repeat=program[0])
            self.assertTrue(any(not exact_on(program, box) for box in boxes), program)

    def test_a_program_with_a_nought_line_that_counts_is_not_exact(self):
        for lines in ((("sub", 0, 0),), (("sub", 0, 0), ("add", 2, 1)), (("sub", 0, 0), ("mul", 2, 1)),
                      (("num", (-1, 1)), ("mul", 2, 1), ("add", 3, 1), ("sub", 0, 4))):
            self.assertIs(is_exact((2, lines)), False)

    def test_numbers_are_added_to_both_ends(self):
        self.assertEqual(told_span((1, (("num", Q2), ("add", 0, 1))), ((Q0, Q1),)), (Q2, plus(Q1, Q2)))
