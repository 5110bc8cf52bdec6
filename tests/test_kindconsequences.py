"""Consequences [54] and [63], and (G8), (G9), (G10), (G12), at programs and forms written by hand and others."""

import unittest
from itertools import combinations
from random import Random

from sevenruns.boxes import in_box, with_side
from sevenruns.budgets import budget_far, budget_near
from sevenruns.building import program_of
from sevenruns.corners import corner_counts, corner_span
from sevenruns.crosses import alike_cross, cross_at, crossed
from sevenruns.errors import InvalidPaper
from sevenruns.expanding import form_of
from sevenruns.formfacts import is_first
from sevenruns.formruns import step_of, step_two, value_of
from sevenruns.gridchecker import lets_grid
from sevenruns.grids import grid_paper, runs_at
from sevenruns.judging import judged
from sevenruns.kindends import counts_by
from sevenruns.kindforms import form_by
from sevenruns.kindmaking import kind_of
from sevenruns.kindspans import span_by
from sevenruns.kindtexts import kind_line, read_kind
from sevenruns.kindthings import value_by
from sevenruns.nodes import breadth_by, case_by, knots_of
from sevenruns.pieces import pieces_of
from sevenruns.programs import breadth_of, degrees_of, is_plain
from sevenruns.quotients import times
from sevenruns.reaching import point_with
from sevenruns.runcheckers import lets_seven, lets_six
from sevenruns.runs import run_of
from sevenruns.sevens import seven_bars, seven_paper
from sevenruns.showing import lets_shown, shown
from sevenruns.spans import holds, span_within
from sevenruns.tolds import told_span
from sevenruns.unfolding import copy_counts
from sevenruns.verdicts import is_exact
from tests.kind_samples import HAND_FORMS, random_structured, small_kinds, some_box
from tests.samples import MIXING, Q0, Q1, SPREAD, TIGHT, frac, quot, random_number, random_program
from tests.test_judging import checks_about
from tests.verdict_samples import EXACT, FAULTY

BY_HAND = [program for program, _ in EXACT + FAULTY if max(degrees_of(program)) <= 8 and is_first(form_of(program))]


def checked_forms(seed, many=60):
    rng = Random(seed)
    return [form for form, _ in HAND_FORMS] + [random_structured(rng, most=5) for _ in range(many)]


def refused(checker, program, thing):
    try:
        checker(program, thing)
    except InvalidPaper as error:
        return error.word
    return None


class Kinds(unittest.TestCase):
    def test_crosses_of_programs_and_forms(self):
        rng = Random(271)
        for program in BY_HAND:
            form = form_of(program)
            for three in combinations(range(program[0]), 3):
                i, j, k = three
                point = tuple(random_number(rng) for _ in range(program[0]))
                self.assertEqual(cross_at(program, point, three), tuple(
                    times(value_of(step_of(form, one), point), value_of(step_two(form, *pair), point))
                    for one, pair in ((i, (j, k)), (j, (i, k)), (k, (i, j)))))

    def test_kinds_there_and_back(self):
        for kind in small_kinds():
            self.assertEqual(kind_of(form_by(kind, 8)), kind)
            self.assertEqual(read_kind(kind_line(kind)), kind)
        for form in checked_forms(272):
            self.assertEqual(form_by(kind_of(form), form[0]), form)

    def test_the_same_four(self):
        # (G9)
        for form in checked_forms(273):
            kind = kind_of(form)
            self.assertIs(case_by(kind) == "knotted", bool(crossed(form)))
            self.assertIs(knots_of(kind) == (), all(alike_cross(form, three) for three in combinations(range(form[0]), 3)))
            program = program_of(kind, form[0])
            self.assertIs(is_plain(program), knots_of(kind) == ())
            self.assertLessEqual(max(copy_counts(program)), form[0] if form[0] > 1 else 1)
            paper = seven_paper(form)
            if paper is not None:
                point, three = paper
                self.assertEqual(len(set(cross_at(program, point, three))), 3)
                self.assertIs(seven_bars(runs_at(program, point, three)), True)

    def test_no_runs_of_exact_programs_bar(self):
        rng = Random(274)
        programs = [program for program, _ in EXACT if program[0] >= 3]
        while len(programs) < 60:
            program = random_program(rng, most_inputs=4, most_lines=8)
            if program[0] >= 3 and max(degrees_of(program)) <= 8 and is_exact(program):
                programs.append(program)
        for program in programs:
            for _ in range(8):
                point = tuple(random_number(rng) for _ in range(program[0]))
                for three in combinations(range(program[0]), 3):
                    self.assertEqual(refused(lets_seven, program, (point, three)), "free")
                    self.assertEqual(refused(lets_six, program, (point, three)), "free")
                    self.assertEqual(refused(lets_grid, program, (point, three)), "clan")

    def test_no_grids_of_less_breadth(self):
        # (G10)
        rng = Random(275)
        knotted = 0
        for form in checked_forms(276, 120):
            kind = kind_of(form)
            program = program_of(kind, form[0])
            paper = grid_paper(form)
            if paper is not None:
                knotted += 1
                self.assertEqual(lets_grid(program, paper), breadth_by(kind))
            for _ in range(4):
                many = breadth_of(program) + 1
                if 3 <= many <= form[0]:
                    lot = tuple(sorted(rng.sample(range(form[0]), many)))
                    point = tuple(quot(rng.randint(-9, 9)) for _ in lot) + (Q0,) * (form[0] - many)
                    self.assertEqual(refused(lets_grid, program, (point, lot)), "clan")
        self.assertGreater(knotted, 20)

    def test_papers_hold_of_each_program_with_the_form(self):
        other = (3, (("mul", 1, 2), ("mul", 0, 2), ("add", 3, 0), ("sub", 5, 4)))
        self.assertEqual(form_of(other), form_of(MIXING))
        for program in (MIXING, other):
            self.assertIsNone(refused(lets_seven, program, seven_paper(form_of(MIXING))))
            self.assertIsNone(refused(lets_grid, program, grid_paper(form_of(MIXING))))


class Spans(unittest.TestCase):
    def test_as_of_forms_and_exact_programs(self):
        rng = Random(277)
        for form in checked_forms(278):
            kind, box = kind_of(form), some_box(rng, form[0])
            self.assertEqual(span_by(kind, box), corner_span(form, box))
            self.assertEqual(counts_by(kind, box), corner_counts(form, box))
            self.assertEqual(span_by(kind, box), told_span(program_of(kind, form[0]), box))
        for program, _ in EXACT:
            if max(degrees_of(program)) <= 8:
                box = some_box(rng, program[0])
                self.assertEqual(span_by(kind_of(form_of(program)), box), told_span(program, box))

    def test_points_and_checks(self):
        rng = Random(279)
        for form in checked_forms(280, 40):
            kind, box = kind_of(form), some_box(rng, form[0])
            span, program = span_by(kind, box), program_of(kind, form[0])
            for word, limit in checks_about(span)[:30]:
                check = (word, limit)
                if word != "inside":
                    self.assertIs(point_with(kind, box, limit) is None, not holds(span, limit))
                points = shown(kind, box, check)
                self.assertIs(judged(kind, box, check) == "never", points[0] is None)
                self.assertIs(judged(kind, box, check) == "always", points[1] is None)
                self.assertEqual(lets_shown(program, box, check, points),
                                 tuple(None if point is None else value_by(kind, point) for point in points))
        yes, no = shown(kind_of(form_of(SPREAD)), (((-1, 1), Q1),) * 3, ("is", (1, 2)))
        for program in (SPREAD, TIGHT):
            self.assertEqual(lets_shown(program, (((-1, 1), Q1),) * 3, ("is", (1, 2)), (yes, no)), ((1, 2), run_of(program, no)))
        # (G12)
        point = point_with(kind_of(form_of(MIXING)), (((-1, 1), Q1),) * 3, (1, 7))
        self.assertIs(in_box((((-1, 1), Q1),) * 3, point), True)
        self.assertLessEqual(sum(entry not in ((-1, 1), Q1) for entry in point), 1)

    def test_budgets_are_used_up(self):
        rng = Random(281)
        to = 0
        for form in checked_forms(282, 150):
            kind, box, which = kind_of(form), some_box(rng, form[0]), rng.randrange(form[0])
            near, far = span_by(kind, box)
            span = (quot(frac(near) - rng.randint(0, 3)), quot(frac(far) + rng.randint(0, 3)))
            for budget, sign in ((budget_far, 1), (budget_near, -1)):
                word, end = budget(kind, box, which, span)
                if word == "to":
                    to += 1
                    ends = [box[which][0], end] if sign > 0 else [end, box[which][1]]
                    values = span_by(kind, with_side(box, which, tuple(ends)))
                    self.assertTrue(span_within(values, span) and (values[0] == span[0] or values[1] == span[1]))
                    for more in (1, 1000):
                        beyond = quot(frac(end) + sign * frac((more, 97)))
                        ends = (box[which][0], beyond) if sign > 0 else (beyond, box[which][1])
                        self.assertFalse(span_within(span_by(kind, with_side(box, which, ends)), span))
        self.assertGreater(to, 100)

    def test_the_last_slope(self):
        rng = Random(283)
        for form in checked_forms(284, 80):
            kind, box, which = kind_of(form), some_box(rng, form[0]), rng.randrange(form[0])
            pieces = pieces_of(kind, box, which)
            near = box[which][0]
            far_ends = [quot(frac(near) + number) for number in (0, 1, 5, 1000, 10 ** 6)]
            greatest = {span_by(kind, with_side(box, which, (near, far)))[1] for far in far_ends}
            self.assertIs(pieces[-1][2] == Q0, len(greatest) == 1)
