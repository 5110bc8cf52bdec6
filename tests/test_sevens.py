import unittest
from fractions import Fraction
from itertools import permutations, product
from random import Random

from sevenruns.building import program_of
from sevenruns.crosses import cross_at
from sevenruns.errors import Bent, InvalidPaper
from sevenruns.expanding import form_of
from sevenruns.grids import runs_at
from sevenruns.kindmaking import kind_of
from sevenruns.nodes import case_by
from sevenruns.programs import is_plain, is_program
from sevenruns.runcheckers import lets_seven, lets_six
from sevenruns.sevens import free_program, seven_bars, seven_paper, six_bars
from sevenruns.trues import exact_on
from sevenruns.verdicts import is_exact
from tests.kind_samples import HAND_FORMS, cycle_form, dense_form, path_form, random_structured
from tests.samples import BENT, MIXED, MIXING, NOTHINGS, PAIRS, Q0, Q1, Q2, SPREAD, TIGHT, check_raises, check_refused, frac
from tests.samples import no_points, quot, random_box
from tests.test_crosses import NO_THREES

NOUGHTS = (Q0, Q0, Q0)
MIXING_RUNS = (Q0, (-1, 1), Q2, Q0, Q1, (-2, 1), (3, 1))


def quotients(*numbers):
    return tuple(quot(number) for number in numbers)


def bars_slowly(results):
    """By what (G9) says of two inputs of the three, each two and the third one named."""
    base, *rest = [frac(result) for result in results]
    ones, twos = [value - base for value in rest[:3]], {}
    for (one, other), value in zip(((0, 1), (0, 2), (1, 2)), rest[3:]):
        twos[(one, other)] = twos[(other, one)] = value - base - ones[one] - ones[other]
    for i, j, k in permutations(range(3)):
        if ones[i] * twos[(j, k)] == ones[j] * twos[(i, k)]:
            if ones[i] or ones[j] or not twos[(i, j)] or (not twos[(i, k)] and not twos[(j, k)]):
                return False
    return True


def results_of(base, ones, twos):
    """The seven results with these steps."""
    i, j, k = ones
    return quotients(base, *(base + one for one in ones), base + i + j + twos[0], base + i + k + twos[1], base + j + k + twos[2])


class Sevens(unittest.TestCase):
    def test_what_the_document_tells_of_mixing(self):
        self.assertEqual(runs_at(MIXING, (Q0, Q0, Q2), (0, 1, 2)), MIXING_RUNS)
        self.assertIs(seven_bars(results=MIXING_RUNS), True)
        self.assertIsNone(free_program(results=MIXING_RUNS))
        self.assertEqual(lets_seven(MIXING, ((Q0, Q0, Q2), (0, 1, 2))), ((-1, 1), (-2, 1), Q0))

    def test_seven_bars(self):
        # With noughts among the steps: these bar, and those do not.
        for ones, twos in (((0, 0, 0), (1, 1, 1)), ((0, 0, 0), (1, 1, 2)), ((0, 0, 1), (1, 1, 2)), ((0, 0, 2), (3, -1, 1)),
                           ((1, 2, 3), (1, 1, 1)), ((-1, 2, 0), (0, -1, 1)), ((0, 0, 1), (1, 0, 1)), ((1, 1, 1), (1, 2, 3)),
                           ((0, 0, 0), (1, 0, 1))):
            self.assertIs(seven_bars(results_of(5, ones, twos)), bars_slowly(results_of(5, ones, twos)))
        self.assertIs(seven_bars(results_of(0, (0, 0, 0), (1, 1, 1))), True)
        self.assertIs(seven_bars(results_of(0, (0, 0, 0), (1, 1, 0))), False)
        self.assertIs(seven_bars(results_of(0, (0, 0, 0), (1, 0, 0))), False)
        self.assertIs(seven_bars(results_of(0, (0, 0, 0), (0, 0, 0))), False)
        self.assertIs(seven_bars(results_of(3, (0, 0, 1), (1, 1, 1))), True)
        self.assertIs(seven_bars(results_of(3, (0, 0, 1), (1, 0, 0))), False)
        self.assertIs(seven_bars(results_of(3, (0, 1, 0), (0, 1, 1))), True)
        self.assertIs(seven_bars(results_of(3, (0, 0, 1), (0, 1, 1))), False)
        self.assertIs(seven_bars(results_of(3, (1, 1, 1), (2, 2, 2))), False)
        self.assertIs(seven_bars(results_of(3, (1, 2, 3), (1, 2, 2))), True)

    def test_all_small_results(self):
        bars = 0
        for ones in product((0, 1, -1, 2), repeat=3):
            for twos in product((0, 1, -2), repeat=3):
                results = results_of(Fraction(1, 2), ones, twos)
                self.assertIs(seven_bars(results), bars_slowly(results))
                bars += seven_bars(results)
        self.assertGreater(bars, 300)

    def test_a_cross_of_three_unlike_numbers_bars(self):
        rng = Random(201)
        for _ in range(300):
            results = quotients(*(rng.randint(-3, 3) for _ in range(7)))
            base = frac(results[0])
            ones = [frac(value) - base for value in results[1:4]]
            twos = [frac(value) - base - ones[a] - ones[b] for value, (a, b) in zip(results[4:], ((0, 1), (0, 2), (1, 2)))]
            if len({ones[0] * twos[2], ones[1] * twos[1], ones[2] * twos[0]}) == 3:
                self.assertIs(seven_bars(results), True)

    def test_free_programs(self):
        rng = Random(202)
        free = 0
        for _ in range(600):
            results = quotients(*(Fraction(rng.randint(-2, 2), rng.choice((1, 1, 2))) for _ in range(7)))
            program = free_program(results)
            self.assertIs(program is None, seven_bars(results))
            if program is not None:
                free += 1
                self.check_free(program, results)
        self.assertGreater(free, 100)
        for ones, twos in product(product((0, 1, 2), repeat=3), product((0, 1), repeat=3)):
            results = results_of(-1, ones, twos)
            if not bars_slowly(results):
                self.check_free(free_program(results), results)
        self.check_free(free_program((Q2,) * 7), (Q2,) * 7)

    def check_free(self, program, results):
        self.assertTrue(is_program(program) and is_plain(program) and program[0] == 3)
        self.assertIs(is_exact(program), True)
        self.assertEqual(runs_at(program, NOUGHTS, (0, 1, 2)), results)

    def test_six_bars(self):
        for ones, twos, bar in (((1, 2, 3), (4, 4, 4), True), ((4, 4, 4), (1, 2, 3), True), ((1, 2, 2), (4, 4, 4), False),
                                ((1, 2, 4), (4, 4, 4), False), ((4, 4, 4), (1, 2, 4), False), ((4, 4, 4), (4, 4, 4), False),
                                ((1, 2, 3), (4, 4, 5), False), ((1, 2, 3), (5, 4, 4), False), ((1, 2, 3), (4, 5, 4), False),
                                ((4, 4, 5), (1, 2, 3), False), ((1, 2, 3), (1, 2, 3), False), ((4, 4, 4), (3, 2, 2), False),
                                ((1, 1, 3), (4, 4, 4), False), ((4, 4, 4), (5, 5, 5), False), ((1, 2, 3), (4, 6, 5), False)):
            self.assertIs(six_bars(results=quotients(*ones, *twos)), bar)
        self.assertIs(six_bars(((5, 4), (-3, 4), (1, 4), (3, 4), (3, 4), (3, 4))), True)

    def test_six_bar_if_seven_do_whatever_the_first_is(self):
        # The results that let a clan of two inputs are few: where f_i f_jk = f_j f_ik, an equation of first degree in the base.
        rng = Random(203)
        found = {}
        for _ in range(500):
            six = [Fraction(rng.randint(-2, 3)) for _ in range(6)]
            if rng.random() < 0.6:
                at = rng.choice((0, 3))
                six[at:at + 3] = [six[at]] * 3
            bases = {Fraction(100003, 7)}
            for i, j, k in ((0, 1, 2), (0, 2, 1), (1, 2, 0)):
                def difference(base):
                    at = {(0, 1): 3, (0, 2): 4, (1, 2): 5}
                    steps = [value - base for value in six[:3]]
                    second = [six[at[tuple(sorted(pair))]] - six[pair[0]] - six[pair[1]] + base for pair in ((j, k), (i, k))]
                    return steps[i] * second[0] - steps[j] * second[1]
                low, high = difference(Fraction(0)), difference(Fraction(1))
                if low != high:
                    bases.add(-low / (high - low))
            always = all(bars_slowly(quotients(base, *six)) for base in bases)
            self.assertIs(six_bars(quotients(*six)), always)
            found[always] = found.get(always, 0) + 1
        self.assertGreater(min(found.values()), 30)

    def test_seven_papers(self):
        rng = Random(204)
        forms = [form for form, _ in HAND_FORMS] + [random_structured(rng, most=7) for _ in range(80)]
        forms += [path_form(size) for size in range(3, 9)] + [cycle_form(5), cycle_form(8), dense_form(4), dense_form(6)]
        knotted = 0
        for form in forms:
            paper = seven_paper(form=form)
            kind = kind_of(form)
            self.assertIs(paper is None, case_by(kind) != "knotted")
            if paper is not None:
                knotted += 1
                point, three = paper
                self.assertTrue(all(bottom == 1 and 0 <= top <= (2 if which in three else 6)
                                    for which, (top, bottom) in enumerate(point)))
                program = program_of(kind, form[0])
                self.assertEqual(lets_seven(program, paper), cross_at(program, point, three))
        self.assertGreater(knotted, 25)
        # Each cross of unlike forms, but nought at many points: x0 (x0 - 1) is no form of first degree, so beside it.
        far = (8, tuple(sorted(((0, 1) + (7,), Q1) if k == 0 else ((0, 2), Q1) if k == 1 else ((1, 2, 6), (-3, 1)) for k in range(3))))
        self.assertIsNotNone(seven_paper(far))

    def test_refused(self):
        for function, size in ((seven_bars, 7), (free_program, 7), (six_bars, 6)):
            for results in no_points(size):
                check_refused(self, function, {"results": results}, "results")
        check_raises(self, Bent, {"which": 1}, seven_paper, BENT)
        check_raises(self, Bent, {"which": 0}, seven_paper, (3, (((0, 0), Q1), ((1, 2), Q1))))


class RunCheckers(unittest.TestCase):
    def refused(self, checker, program, thing, word):
        check_raises(self, InvalidPaper, {"word": word, "at": -1}, checker, program, thing)

    def test_examples(self):
        self.assertEqual(lets_six(MIXING, ((Q0, (1, 2), (-1, 2)), (0, 1, 2))), ((5, 4), (-3, 4), (1, 4), (3, 4), (3, 4), (3, 4)))

    def test_returned(self):
        thing = ((Q0, Q0, Q2), (0, 1, 2))
        self.assertEqual(lets_seven(program=MIXING, thing=thing), cross_at(MIXING, *thing))
        symmetric = (3, (("mul", 0, 1), ("mul", 1, 2), ("mul", 0, 2), ("add", 3, 4), ("add", 5, 6)))
        self.assertEqual(form_of(symmetric), PAIRS)
        thing = ((Q0, Q1, Q2), (0, 1, 2))
        self.assertEqual(lets_seven(symmetric, thing), ((3, 1), Q2, Q1))
        # Bent programs and mixes are run alike.
        bent = (3, (("mul", 0, 1), ("mul", 0, 2), ("mul", 1, 2), ("add", 3, 4), ("add", 6, 5), ("mul", 0, 0), ("add", 7, 8)))
        self.assertEqual(lets_seven(bent, ((Q0, Q1, Q2), (0, 1, 2))), ((4, 1), Q2, Q1))
        mixed = (3, (("mix", (0, 1, 2), (Q0, Q0, Q0, Q1, Q0, Q1, Q1, Q0)),))
        self.assertEqual(lets_seven(mixed, ((Q0, Q1, Q2), (0, 1, 2))), ((3, 1), Q2, Q1))
        self.assertEqual(lets_six(MIXING, ((Q0, (1, 2), (-1, 2)), (0, 1, 2))), runs_at(MIXING, (Q0, (1, 2), (-1, 2)), (0, 1, 2))[1:])
        wide = (40, (("mul", 3, 20), ("mul", 20, 39), ("mul", 3, 39), ("add", 40, 41), ("add", 42, 43)))
        point = tuple((which % 5, 1) for which in range(40))
        self.assertEqual(lets_seven(wide, (point, (3, 20, 39))), cross_at(wide, point, (3, 20, 39)))

    def test_words(self):
        right = ((Q0, Q0, Q2), (0, 1, 2))
        for checker in (lets_seven, lets_six):
            for thing in (None, True, 0, "ab", (), (right[0],), right + (0,), list(right)):
                self.refused(checker, MIXING, thing, "shape")
            for point in no_points(3):
                self.refused(checker, MIXING, (point, right[1]), "point")
                self.refused(checker, MIXING, (point, None), "point")
            for three in NO_THREES + ((0, 1, 3), (1, 2, 3)):
                self.refused(checker, MIXING, (right[0], three), "three")
            for program in (TIGHT, SPREAD):
                self.refused(checker, program, right, "free")
            self.refused(checker, MIXED, ((Q0, Q0), (0, 1, 2)), "three")
            self.refused(checker, MIXING, (right[0][:2], (0, 1)), "point")
        # At some points the runs of mixing let a program of breadth two; and six do where seven do not.
        self.refused(lets_seven, MIXING, ((Q0, Q1, Q0), (0, 1, 2)), "free")
        self.assertEqual(lets_seven(MIXING, (NOUGHTS, (0, 1, 2))), (Q1, Q0, Q0))
        self.refused(lets_six, MIXING, right, "free")

    def test_nothing_is_accepted_of_exact_ones(self):
        rng = Random(205)
        for _ in range(60):
            form = random_structured(rng, most=5, knots=False)
            program = program_of(kind_of(form), form[0])
            self.assertIs(exact_on(program, random_box(rng, form[0])), True)
            if form[0] >= 3:
                for _ in range(10):
                    point = tuple(quot(rng.randint(-2, 3)) for _ in range(form[0]))
                    three = tuple(sorted(rng.sample(range(form[0]), 3)))
                    self.refused(lets_seven, program, (point, three), "free")
                    self.refused(lets_six, program, (point, three), "free")

    def test_nothings(self):
        for thing in NOTHINGS:
            self.refused(lets_seven, MIXING, thing, "shape")
