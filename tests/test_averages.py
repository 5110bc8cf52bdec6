import unittest
from random import Random

from sevenruns.averages import average_form, average_paper, is_average, lets_average
from sevenruns.copies import copies_of
from sevenruns.errors import Bent, InvalidPaper, NotUsable
from sevenruns.expanding import form_of
from sevenruns.formfacts import coefficient, is_first
from sevenruns.linked import linked_parts
from sevenruns.programs import degrees_of
from sevenruns.spreads import spread_of
from sevenruns.verdicts import is_exact
from tests.samples import MIXED, MIXING, NO_QUOTIENTS, PAIRS, Q0, Q1, Q2, SPREAD, SQUARE, THRICE, TIGHT, check_raises, random_program

HALVES = (1, (("mix", (0, 0), (Q0, (1, 2), (1, 2), Q0)),))
HALVES_PAPER = (((0,), (((0,), (1, 2)), ((1,), (1, 2)))),)
# x0 x1 as an average of three of the four choices, and one choice twice.
THREE_CHOICES = (2, (("mix", (0, 0, 1, 1), tuple(
    {0b0101: (1, 2), 0b0110: (1, 4), 0b1010: (1, 4)}.get(number, Q0) for number in range(16))),))
THREE_PAPER = (((0, 1), (((0, 2), (1, 2)), ((1, 2), (1, 4)), ((1, 3), (1, 4)))),)
# Two parts and a number: 3 + x0 + (x1 x2 + x1).
PARTS = (3, (("num", (3, 1)), ("add", 0, 3), ("num", Q1), ("add", 2, 5), ("mul", 1, 6), ("add", 4, 7)))
PARTS_PAPER = (((0,), (((0,), Q1),)), ((1, 2), (((1, 2), Q1),)))
PLAIN_BARE = (2, (("num", Q2),))
WIPED = (1, (("sub", 0, 0),))
FUNCTIONS = (average_paper, is_average, lambda program: lets_average(program, None), lambda program: average_form(program, None))


class Averages(unittest.TestCase):
    def refused(self, program, thing, word, at=-1):
        check_raises(self, InvalidPaper, {"word": word, "at": at}, lets_average, program, thing)
        if word != "other" and copies_of(program):
            check_raises(self, NotUsable, {"word": "thing", "at": -1}, average_form, program, thing)

    def test_example(self):
        self.assertEqual(average_paper(HALVES), (((0,), (((0,), (1, 2)), ((1,), (1, 2)))),))

    def test_papers(self):
        for program, paper in ((HALVES, HALVES_PAPER), (THREE_CHOICES, THREE_PAPER), (PARTS, PARTS_PAPER), (PLAIN_BARE, ()),
                               (THRICE, (((0, 1), (((0, 1), (1, 4)), ((2, 3), (3, 4)))),)),
                               ((1, (("num", Q0), ("mul", 0, 1))), ()),
                               ((2, (("num", Q0), ("mul", 0, 2), ("add", 1, 3))), (((1,), (((0,), Q1),)),))):
            self.assertEqual(average_paper(program=program), paper)
            self.assertIs(is_average(program=program), True)
            self.assertEqual(lets_average(program=program, thing=paper), sum(len(choices) for _, choices in paper))
            if copies_of(program):
                self.assertEqual(average_form(program=program, thing=paper), spread_of(program))
        self.assertEqual(average_paper(MIXED), (((0, 1), (((0, 1), Q1),)),))

    def test_none_for_what_is_not_exact(self):
        below = (1, (("mix", (0, 0), (Q0, Q2, (-1, 1), Q0)),))
        # The weights are right, but the number or a square of copies is not.
        crossing = (1, (("mix", (0, 0, 0, 0), tuple({1: Q1, 0b110: Q1, 0b1010: (-1, 1)}.get(s, Q0) for s in range(16))),))
        shared = (2, (("mul", 0, 1), ("add", 2, 0), ("add", 3, 1), ("mul", 0, 1), ("add", 5, 1), ("add", 6, 0), ("add", 4, 7), ("sub", 8, 0),
                      ("add", 9, 0)))
        for program in (WIPED, below, crossing, (2, (("mul", 0, 1), ("add", 2, 1), ("sub", 3, 1))), shared):
            self.assertIsNone(average_paper(program))
            self.assertIs(is_average(program), False)
        self.refused(WIPED, (), "other")
        self.assertEqual(average_form(WIPED, ()), (2, ()))
        self.refused(below, (((0,), (((0,), Q1),)),), "other")
        self.refused(crossing, (((0,), (((0,), Q1),)),), "other")

    def test_average_form(self):
        self.assertEqual(average_form(HALVES, (((0,), (((0,), (1, 3)), ((1,), (2, 3)))),)), (2, (((0,), (1, 3)), ((1,), (2, 3)))))
        self.assertEqual(average_form(PARTS, PARTS_PAPER), (3, (((), (3, 1)), ((0,), Q1), ((1,), Q1), ((1, 2), Q1))))
        # Copies of two inputs of a part stand in another sequence than the inputs.
        turned = (2, (("mul", 1, 0), ("add", 2, 0)))
        self.assertEqual(copies_of(turned), (1, 0, 0))
        self.assertEqual(average_form(turned, (((0, 1), (((0, 1), (1, 2)), ((0, 2), (1, 2)))),)),
                         (3, (((0, 1), (1, 2)), ((0, 2), (1, 2)), ((1,), (1, 2)), ((2,), (1, 2)))))
        self.refused(turned, (((0, 1), (((0, 1), (1, 2)), ((0, 2), (1, 2)))),), "other")
        # A number nought, and a form of which the parts alone are told.
        self.assertEqual(average_form(MIXED, (((0, 1), (((0, 1), Q1),)),)), spread_of(MIXED))

    def test_shape_and_part(self):
        for thing in (None, True, 0, "", [], [HALVES_PAPER[0]], "ab"):
            self.refused(HALVES, thing, "shape")
        choices = HALVES_PAPER[0][1]
        for row in (None, 0, (), "ab", ((0,),), ((0,), choices, 0), [(0,), choices], ((1,), choices), ((), choices), ((False,), choices),
                    ([0], choices), ("0", choices), (0, choices), ((0, 0), choices)):
            self.refused(HALVES, (row,), "part", 0)
        self.refused(HALVES, HALVES_PAPER * 2, "part", 1)
        self.refused(HALVES, HALVES_PAPER + (None,), "part", 1)
        self.refused(PARTS, PARTS_PAPER[::-1], "part", 0)
        self.refused(PARTS, PARTS_PAPER[:1] * 2, "part", 1)
        self.refused(PARTS, (PARTS_PAPER[0], ((1, True), PARTS_PAPER[1][1])), "part", 1)
        self.refused(PLAIN_BARE, (None,), "part", 0)
        self.refused(WIPED, HALVES_PAPER, "part", 0)

    def test_choices(self):
        for choices in (None, 0, [], "a", (None,), ((0,),), (((0,), Q1, 0),), ([(0,), Q1],), ((0, Q1),), ((None, Q1),), (([0], Q1),),
                        (((), Q1),), (((0, 1), Q1),), (((2,), Q1),), (((False,), Q1),), (((0,), Q0),), (((0,), (-1, 2)), ((1,), (3, 2))),
                        (((1,), (1, 2)), ((0,), (1, 2))), (((0,), (1, 2)), ((0,), (1, 2)))):
            self.refused(HALVES, (((0,), choices),), "choices", 0)
        for weight in NO_QUOTIENTS:
            self.refused(HALVES, (((0,), (((0,), weight),)),), "choices", 0)
        for chosen in ((0, 1), (2, 3), (2, 0), (0,), (0, 2, 3), (0, 4), (0, True), (3, 1)):
            self.refused(THREE_CHOICES, (((0, 1), ((chosen, Q1),)),), "choices", 0)
        self.assertEqual(copies_of(PARTS), (0, 1, 2))
        self.refused(PARTS, (PARTS_PAPER[0], ((1, 2), (((0, 2), Q1),))), "choices", 1)

    def test_weights_and_missing(self):
        for choices in ((), (((0,), (1, 2)),), (((0,), (1, 2)), ((1,), (1, 3))), (((0,), Q1), ((1,), Q1))):
            self.refused(HALVES, (((0,), choices),), "weights", 0)
        self.refused(PARTS, (PARTS_PAPER[0], ((1, 2), ())), "weights", 1)
        for many in range(2):
            self.refused(PARTS, PARTS_PAPER[:many], "missing")
        self.refused(HALVES, (), "missing")

    def test_other(self):
        self.refused(HALVES, (((0,), (((0,), (1, 3)), ((1,), (2, 3)))),), "other")
        self.refused(HALVES, (((0,), (((0,), Q1),)),), "other")
        self.refused(THREE_CHOICES, (((0, 1), (((0, 2), (1, 2)), ((0, 3), (1, 4)), ((1, 2), (1, 4)))),), "other")

    def test_the_first_of_two_faults(self):
        # Element by element, all of one ahead of the next one, and missing parts behind them.
        self.refused(PARTS, (((0,), ()), None), "weights", 0)
        self.refused(PARTS, (((0,), None), None), "choices", 0)
        self.refused(PARTS, (((0,), ()),), "weights", 0)
        self.refused(HALVES, (((0,), (((0,), (1, 3)),)), None), "weights", 0)
        self.refused(HALVES, (((0,), (((0,), Q1), ((0,), Q1))),), "choices", 0)

    def test_refused_in_sequence(self):
        bent_and_partless = (3, (("mul", 0, 0), ("mul", 0, 1), ("mul", 1, 2), ("add", 4, 5), ("add", 3, 6)))
        for function in FUNCTIONS:
            check_raises(self, Bent, {"which": 0}, function, SQUARE)
            check_raises(self, Bent, {"which": 0}, function, bent_and_partless)
            for program in (SPREAD, MIXING, (3, (("mul", 0, 1), ("mul", 1, 2), ("add", 3, 4)))):
                check_raises(self, NotUsable, {"word": "program", "at": -1}, function, program)
        self.assertEqual(form_of(SPREAD), form_of(TIGHT))
        for program in (PLAIN_BARE, (1, (("num", Q0), ("mul", 1, 1)))):
            for thing in ((), None):
                check_raises(self, NotUsable, {"word": "program", "at": -1}, average_form, program, thing)
            self.assertEqual(lets_average(program, ()), 0)
            self.refused(program, None, "shape")
        self.assertEqual(len(linked_parts(PAIRS)), 1)

    def test_as_is_exact(self):
        rng = Random(161)
        found = {}
        while min(found.values(), default=0) < 60 or len(found) < 2:
            program = random_program(rng, most_inputs=3, most_lines=6)
            if max(degrees_of(program)) > 8 or len(copies_of(program)) > 9 or not is_first(form_of(program)):
                continue
            form = form_of(program)
            if any(coefficient(form, lot) == Q0 for lot in linked_parts(form)):
                check_raises(self, NotUsable, {"word": "program", "at": -1}, is_average, program)
                continue
            self.assertIs(is_average(program), is_exact(program))
            found[is_exact(program)] = found.get(is_exact(program), 0) + 1
            paper = average_paper(program)
            if paper is not None:
                lets_average(program, paper)
