"""Consequences [42], and (G3) to (G8), (G10), (G11), at programs and forms written by hand and others."""

import unittest
from itertools import combinations, product
from random import Random

from sevenruns.averages import average_paper, is_average, lets_average
from sevenruns.building import program_of
from sevenruns.carrying import carried_of, counting_of
from sevenruns.clans import clans_of
from sevenruns.copies import copies_of
from sevenruns.errors import InvalidPaper
from sevenruns.exactchecker import lets_exact
from sevenruns.exactpapers import exact_paper
from sevenruns.expanding import form_of
from sevenruns.formfacts import coefficient, is_first
from sevenruns.kindforms import form_by
from sevenruns.kindmaking import kind_of
from sevenruns.linked import linked_parts
from sevenruns.losschecker import lets_loss
from sevenruns.losspapers import loss_paper, whole_box
from sevenruns.nodes import breadth_by, nodes_of
from sevenruns.programs import breadth_of, degrees_of, is_plain
from sevenruns.shapes import shape_count
from sevenruns.shares import shares_of
from sevenruns.trues import exact_on
from sevenruns.unfolding import copy_counts
from sevenruns.verdicts import is_exact
from tests.kind_samples import HAND_FORMS, clans_slowly, random_structured
from tests.loss_samples import BENT_ONES, BOX_ONES, NARROW_ONES, NOUGHT_ONES
from tests.samples import Q0, Q1, Q2, UNIT, frac, random_box, random_program
from tests.verdict_samples import EXACT, FAULTY, exact_by_shares


def is_small(program, copies=9):
    return max(degrees_of(program)) <= 8 and copy_counts(program)[-1] <= copies


EXACT_ONES = [program for program, _ in EXACT if is_small(program)]
OTHERS = [program for program, _ in FAULTY if is_small(program)] + [p for p in BENT_ONES + BOX_ONES + NARROW_ONES if is_small(p)] + [
    program for program, _ in NOUGHT_ONES if is_small(program)]


def accepts(checker, program, thing):
    try:
        checker(program, thing)
    except InvalidPaper:
        return False
    return True


class Papers(unittest.TestCase):
    def test_exact_papers_alone_are_accepted(self):
        for program in EXACT_ONES:
            paper = exact_paper(program)
            self.assertTrue(accepts(lets_exact, program, paper))
            for k in range(len(paper)):
                self.assertFalse(accepts(lets_exact, program, paper[:k] + paper[k + 1:]))
                line, lot, factor = paper[k]
                changed = (line, lot, (factor[0] + factor[1], factor[1]))
                self.assertFalse(accepts(lets_exact, program, paper[:k] + (changed,) + paper[k + 1:]))
        for program in OTHERS:
            self.assertFalse(accepts(lets_exact, program, ()))

    def test_loss_papers(self):
        for program in OTHERS:
            self.assertTrue(accepts(lets_loss, program, loss_paper(program)))
        for program in EXACT_ONES:
            self.assertIsNone(loss_paper(program))
            self.assertIsNone(whole_box(program))
            size = program[0]
            things = [("box", (side,) * size) for side in (UNIT, (Q0, Q0), ((-3, 1), Q2))]
            things += [("bent", point, which) for point in product((Q0, Q1, (-1, 2)), repeat=size) for which in range(size)]
            things += [("nought", line) for line in range(len(program[1]))]
            self.assertFalse(any(accepts(lets_loss, program, thing) for thing in things))

    def test_average_papers_alone_are_accepted(self):
        checked = 0
        for program in EXACT_ONES + OTHERS:
            form = form_of(program)
            if not is_first(form) or any(coefficient(form, lot) == Q0 for lot in linked_parts(form)):
                continue
            self.assertIs(is_average(program), is_exact(program))
            paper = average_paper(program)
            if paper is None:
                continue
            checked += 1
            self.assertTrue(accepts(lets_average, program, paper))
            for at, (lot, choices) in enumerate(paper):
                self.assertFalse(accepts(lets_average, program, paper[:at] + paper[at + 1:]))
                if len(choices) > 1:
                    (one, weight), (other, more) = choices[:2]
                    moved = ((one, (weight[0], 2 * weight[1]) if weight[0] % 2 else (weight[0] // 2, weight[1])), (other, more))
                    self.assertFalse(accepts(lets_average, program, paper[:at] + ((lot, moved + choices[2:]),) + paper[at + 1:]))
                    self.assertFalse(accepts(lets_average, program, paper[:at] + ((lot, ((one, Q1),)),) + paper[at + 1:]))
        self.assertGreater(checked, 8)


class Guarantees(unittest.TestCase):
    def test_shares(self):
        # (G3)
        for program in EXACT_ONES + OTHERS:
            self.assertIs(exact_by_shares(program), is_exact(program))
        for program in EXACT_ONES:
            copies, shares = copies_of(program), shares_of(program)
            for which in set(copies):
                total = sum(frac(share) for copy, share in zip(copies, shares) if copy == which)
                self.assertIn(total, (0, 1))
            self.assertTrue(all(share[0] >= 0 for share in shares))

    def test_lines_of_exact_programs_carry_clans(self):
        # (G4)
        rng = Random(191)
        programs = list(EXACT_ONES)
        while len(programs) < 150:
            program = random_program(rng, most_inputs=4, most_lines=7)
            if is_small(program) and is_exact(program):
                programs.append(program)
        for program in programs:
            clans = clans_slowly(form_of(program))
            for line in counting_of(program):
                self.assertIn(carried_of(program)[line], [()] + clans)

    def test_one_wide_side_is_enough_but_not_with_whole_ends(self):
        # (G6)
        for program in BOX_ONES + NARROW_ONES:
            word, box = loss_paper(program)
            self.assertEqual(word, "box")
            self.assertEqual(sum(near != far for near, far in box), 1)
            whole = whole_box(program)
            self.assertLessEqual(sum(near != far for near, far in whole), 2)
            for found in (box, whole):
                self.assertIs(exact_on(program, found), False)

    def test_averages(self):
        # (G7)
        rng = Random(192)
        words = ("add", "sub", "mul", "num", "mix")
        found = {}
        while min(found.values(), default=0) < 20 or len(found) < 2:
            program = random_program(rng, most_inputs=2, most_lines=4, words=words)
            form = form_of(program) if is_small(program, 8) else None
            if form is None or not is_first(form) or any(coefficient(form, lot) == Q0 for lot in linked_parts(form)):
                continue
            found[is_average(program)] = found.get(is_average(program), 0) + 1
            boxes = [random_box(rng, program[0]) for _ in range(25)] + [box for box in product(
                ((Q0, Q1), ((-1, 1), Q1), ((-2, 1), (3, 1)), ((-1, 1), Q0)), repeat=program[0])]
            if is_average(program):
                self.assertTrue(all(exact_on(program, box) for box in boxes))
            elif is_plain(program):
                self.assertIs(is_exact(program), False)

    def test_clans_are_those_of_the_kind(self):
        # (G8)
        rng = Random(193)
        for form in [form for form, _ in HAND_FORMS] + [random_structured(rng, most=6) for _ in range(80)]:
            kind = kind_of(form)
            self.assertEqual(form_by(kind, form[0]), form)
            lots = set()
            if kind[0] == "first":
                lots = {(which,) for bundle, _ in form[1] for which in bundle}
                for word, lot, sons in nodes_of(kind):
                    lots.add(lot)
                    if word != "knot":
                        for many in range(2, len(sons) + 1):
                            for some in combinations(sons, many):
                                lots.add(tuple(sorted(which for son in some for which in son)))
            self.assertEqual(clans_of(form), tuple(sorted(lots)))

    def test_no_two_forms_of_one_size_have_one_kind(self):
        forms = [(2, tuple((bundle, (number, 1)) for bundle, number in zip(((), (0,), (0, 1), (1,)), numbers) if number))
                 for numbers in product((-1, 0, 1, 2), repeat=4)]
        self.assertEqual(len({kind_of(form) for form in forms}), len(forms))

    def test_breadth_is_enough_and_needed(self):
        # (G10): of breadth two without a knot, of three with one of three sons, and so on.
        rng = Random(194)
        for form in [form for form, _ in HAND_FORMS] + [random_structured(rng, most=6) for _ in range(40)]:
            kind = kind_of(form)
            program = program_of(kind, form[0])
            self.assertLessEqual(breadth_of(program), breadth_by(kind))
            for box in [random_box(rng, form[0]) for _ in range(3)]:
                self.assertIs(exact_on(program, box), True)
            self.assertIs(is_plain(program), all(word != "knot" for word, _, _ in nodes_of(kind)))

    def test_how_many_shapes(self):
        # (G11)
        rng = Random(195)
        for form in [random_structured(rng, most=8) for _ in range(60)]:
            kind = kind_of(form)
            count = 1 if kind[0] == "first" else 0
            for word, _, sons in nodes_of(kind):
                for odd in range(1, 2 * len(sons) - 2, 2) if word != "knot" else ():
                    count *= odd
            self.assertEqual(shape_count(kind), count)
