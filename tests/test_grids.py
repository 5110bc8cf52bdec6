import unittest
from itertools import combinations
from random import Random

from sevenruns.building import program_of
from sevenruns.errors import Bent, InvalidPaper
from sevenruns.gridchecker import lets_grid
from sevenruns.grids import grid_paper, runs_at
from sevenruns.kindmaking import kind_of
from sevenruns.nodes import breadth_by, case_by, nodes_of
from sevenruns.programs import breadth_of
from sevenruns.runs import run_of
from tests.kind_samples import HAND_FORMS, NESTED_TREE, cycle_form, dense_form, path_form, random_structured
from tests.samples import BENT, MIXED, MIXING, NOTHINGS, PAIRS, Q0, Q1, Q2, SPREAD, TIGHT, check_raises, check_refusals, frac
from tests.samples import no_points, quot, random_program

RIGHT = ((Q0, Q1, Q2), (0, 1, 2))
NO_LOTS = tuple(thing for thing in NOTHINGS if thing != ()) + (0, (1, 0), (0, 0), (3,), (-1,), (True,), [0], (Q0,), (0, 1, 2, 3))
SYMMETRIC = (3, (("mix", (0, 1, 2), (Q0, Q0, Q0, Q1, Q0, Q1, Q1, Q0)),))


def ups(point, *inputs):
    return tuple(quot(frac(entry) + inputs.count(which)) for which, entry in enumerate(point))


def clan_slowly(program, point, lot):
    """True if there is a lot as (G10) tells, by runs."""
    def first(i):
        return frac(run_of(program, ups(point, i))) - frac(run_of(program, point))

    def second(i, j):
        return frac(run_of(program, ups(point, i, j))) - frac(run_of(program, point)) - first(i) - first(j)

    ones = {i: first(i) for i in lot}
    twos = {(i, j): second(i, j) for i in lot for j in lot if i != j}
    return any(all(ones[i] * twos[(j, k)] == ones[j] * twos[(i, k)] for i, j in combinations(part, 2) for k in lot if k not in part)
               for many in range(2, len(lot)) for part in combinations(lot, many))


class Grids(unittest.TestCase):
    def test_runs(self):
        self.assertEqual(runs_at(program=MIXING, point=(Q0, Q0, Q2), lot=(0, 1, 2)), (Q0, (-1, 1), Q2, Q0, Q1, (-2, 1), (3, 1)))
        rng = Random(211)
        for _ in range(100):
            program = random_program(rng, most_inputs=5, words=("add", "sub", "mul", "num", "mix"))
            point = tuple(quot(rng.randint(-2, 2)) for _ in range(program[0]))
            lot = tuple(which for which in range(program[0]) if rng.random() < 0.7)
            expected = [point] + [ups(point, one) for one in lot] + [ups(point, *pair) for pair in combinations(lot, 2)]
            self.assertEqual(runs_at(program, point, lot), tuple(run_of(program, entry) for entry in expected))

    def test_lots_of_any_length(self):
        point = (Q1, Q2, Q0)
        self.assertEqual(runs_at(SPREAD, point, ()), (Q2,))
        self.assertEqual(runs_at(SPREAD, point, (2,)), (Q2, (3, 1)))
        self.assertEqual(runs_at(SPREAD, point, (0, 2)), (Q2, (4, 1), (3, 1), (6, 1)))

    def check_paper(self, form):
        kind = kind_of(form)
        paper = grid_paper(form=form)
        self.assertIs(paper is None, case_by(kind) != "knotted")
        if paper is not None:
            point, lot = paper
            self.assertTrue(len(point) == form[0] and all(entry[1] == 1 for entry in point))
            knots = [sons for word, _, sons in nodes_of(kind) if word == "knot"]
            most = max(len(sons) for sons in knots)
            self.assertIn(True, [len(sons) == most == len(lot) and all(any(which in son for which in lot) for son in sons) and
                                 all(any(which in son for son in sons) for which in lot) for sons in knots])
            program = program_of(kind, form[0])
            self.assertEqual(lets_grid(program, paper), most)
            self.assertEqual(breadth_by(kind), most)
            self.assertFalse(clan_slowly(program, point, lot))
        return paper

    def test_papers(self):
        rng = Random(212)
        many = 0
        for form in [form for form, _ in HAND_FORMS] + [random_structured(rng, most=8) for _ in range(100)]:
            many += self.check_paper(form) is not None
        self.assertGreater(many, 20)

    def test_knots_of_three_to_eight_sons(self):
        for size in range(3, 9):
            forms = [dense_form(size)] + ([path_form(size)] if size > 3 else []) + ([cycle_form(size)] if size != 4 else [])
            for form in forms:
                self.assertEqual(len(self.check_paper(form)[1]), size)

    def test_no_knot(self):
        for form in ((3, ()), (3, (((), Q1),)), (2, (((0, 1), Q1),)), (4, (((0, 1, 2, 3), Q1),))):
            self.assertIsNone(grid_paper(form))

    def test_refused(self):
        check_refusals(self, runs_at, {"program": SPREAD, "point": (Q0,) * 3, "lot": (0, 2)}, {"point": no_points(3), "lot": NO_LOTS})
        check_refusals(self, runs_at, {"program": MIXED, "point": (Q0,) * 2, "lot": ()}, {"point": no_points(2), "lot": NO_LOTS + ((0, 2),)})
        check_raises(self, Bent, {"which": 1}, grid_paper, BENT)
        check_raises(self, Bent, {"which": 2}, grid_paper, (3, (((2, 2), Q1),)))


class GridChecker(unittest.TestCase):
    def refused(self, program, thing, word):
        check_raises(self, InvalidPaper, {"word": word, "at": -1}, lets_grid, program, thing)

    def test_accepted(self):
        self.assertEqual(lets_grid(program=SYMMETRIC, thing=RIGHT), 3)
        self.assertEqual(lets_grid(MIXING, ((Q0, Q0, Q2), (0, 1, 2))), 3)
        nested = program_of(("first", Q0, Q1, NESTED_TREE), 7)
        self.assertEqual(breadth_of(nested), 3)

    def test_words(self):
        for thing in (None, True, 0, "ab", (), (RIGHT[0],), RIGHT + (0,), list(RIGHT)):
            self.refused(SYMMETRIC, thing, "shape")
        for point in no_points(3):
            self.refused(SYMMETRIC, (point, RIGHT[1]), "point")
            self.refused(SYMMETRIC, (point, None), "point")
        for lot in NO_LOTS + ((), (0,), (0, 1), (0, 2, 1), (0, 1, True)):
            self.refused(SYMMETRIC, (RIGHT[0], lot), "lot")
        nine = (9, (("add", 0, 1), ("mul", 9, 2)))
        self.refused(nine, ((Q1,) * 9, tuple(range(9))), "lot")
        self.refused(nine, ((Q1,) * 9, tuple(range(8))), "clan")
        for program in (TIGHT, SPREAD):
            self.refused(program, RIGHT, "clan")
        # Two of three inputs are alike at this point alone.
        self.refused(SYMMETRIC, ((Q1, Q1, Q2), (0, 1, 2)), "clan")
        self.refused(SYMMETRIC, ((Q0, Q1, Q1), (0, 1, 2)), "clan")

    def test_as_told_slowly(self):
        rng = Random(213)
        found = {}
        for k in range(300):
            form = random_structured(rng, most=6) if k % 2 else dense_form(3 + k % 3, (1, 2, -3, 5, 0, -1, 4))
            program = program_of(kind_of(form), form[0])
            if form[0] >= 3:
                lot = tuple(sorted(rng.sample(range(form[0]), rng.randint(3, form[0]))))
                point = tuple(quot(rng.randint(-3, 4)) for _ in range(form[0]))
                clan = clan_slowly(program, point, lot)
                found[clan] = found.get(clan, 0) + 1
                if clan:
                    self.refused(program, (point, lot), "clan")
                else:
                    self.assertEqual(lets_grid(program, (point, lot)), len(lot))
        self.assertGreater(min(found.values()), 15)

    def test_a_clan_of_several_inputs(self):
        # x0 x1 + x1 x2 + x2 x3 beside x4: the lot of four is a clan, no lot of two or three is.
        form = (5, tuple(((one, one + 1), Q1) for one in range(3)) + (((4,), Q1),))
        program = program_of(kind_of(form), 5)
        point = tuple((k, 1) for k in (2, 3, 5, 7, 11))
        self.assertEqual(lets_grid(program, (point, (0, 1, 2, 3))), 4)
        self.refused(program, (point, (0, 1, 2, 3, 4)), "clan")

    def test_no_lot_of_more_inputs_than_the_breadth(self):
        rng = Random(214)
        for _ in range(80):
            form = random_structured(rng, most=6)
            kind = kind_of(form)
            program = program_of(kind, form[0])
            for _ in range(5):
                many = rng.randint(breadth_by(kind) + 1, 7)
                if many <= form[0]:
                    lot = tuple(sorted(rng.sample(range(form[0]), many)))
                    self.refused(program, (tuple(quot(rng.randint(-5, 9)) for _ in range(form[0])), lot), "clan")

    def test_symmetric(self):
        self.assertEqual(grid_paper(PAIRS)[1], (0, 1, 2))
