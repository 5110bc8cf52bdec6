import unittest
from random import Random

from sevenruns.errors import Missing
from sevenruns.expanding import form_of
from sevenruns.programs import is_plain, is_program
from sevenruns.runs import run_of
from sevenruns.written import written_program
from tests.samples import Q0, Q1, Q2, check_raises, check_refusals, frac, some_points
from tests.test_unitkinds import NO_NAMES
from tests.unit_samples import BOTH, HAND_UNITS, LEVEL, MIXED, OPEN, UNITS, fun, is_open_slowly, random_units, run_slowly, tables, unit, units, written_slowly


class Written(unittest.TestCase):
    def test_example(self):
        self.assertEqual(written_program(UNITS, "tank", "level"), (2, (("add", 0, 1), ("sub", 2, 1))))

    def test_by_hand(self):
        for rows, pair, program in (
                (UNITS, ("valve", "flow"), (2, (("sub", 0, 1),))), (BOTH, ("pool", "level"), (2, (("mul", 0, 1), ("add", 2, 0)))),
                (MIXED, ("mix", "flat"), (2, (("mul", 0, 0), ("add", 2, 1), ("mul", 0, 0), ("sub", 3, 4)))),
                # One place handed twice, and a call behind a call.
                (MIXED, ("mix", "same"), (2, (("mul", 0, 0), ("mul", 0, 1), ("mul", 0, 1), ("add", 2, 3), ("add", 5, 4), ("mul", 1, 1), ("add", 7, 1)))),
                (OPEN, ("a", "free"), (1, (("mul", 0, 0),)))):
            self.assertEqual(written_program(units=rows, unit=pair[0], function=pair[1]), program)

    def test_what_reads_a_call_reads_the_last_of_its_lines(self):
        rows = units(unit("a", fun("f", 1, ("num", Q2), ("call", "a", "g", (0, 1)), ("num", Q1), ("mul", 2, 3), ("sub", 4, 2)),
                          fun("g", 2, ("call", "a", "h", (1,)), ("sub", 0, 2)), fun("h", 1, ("num", Q0), ("add", 0, 1), ("num", (5, 2)))))
        self.assertEqual(written_program(rows, "a", "f"), (1, (("num", Q2), ("num", Q0), ("add", 1, 2), ("num", (5, 2)), ("sub", 0, 4), ("num", Q1),
                                                               ("mul", 5, 6), ("sub", 7, 5))))

    def test_as_slowly(self):
        rng = Random(731)
        for rows in [*HAND_UNITS] + [random_units(rng) for _ in range(120)]:
            for pair in tables(rows):
                if not is_open_slowly(rows, pair):
                    program = written_program(rows, *pair)
                    self.assertTrue(is_program(program) and is_plain(program))
                    self.assertEqual(program, written_slowly(rows, pair))
                    for point in some_points(program[0])[:8]:
                        self.assertEqual(frac(run_of(program, point)), run_slowly(rows, pair, [frac(entry) for entry in point])[0])

    def test_two_hundred_lines(self):
        rows = units(unit("a", fun("f", 1, *([("call", "a", "g", (k,)) for k in range(40)])), fun("g", 1, *([("add", 0, 0)] * 4 + [("sub", 4, 0)]))))
        program = written_program(rows, "a", "f")
        self.assertEqual(len(program[1]), 200)
        self.assertEqual(form_of(program), (1, (((0,), Q1),)))
        self.assertEqual(program[1][5:7], (("add", 5, 5), ("add", 5, 5)))

    def test_missing(self):
        # The least one that is called, over others or not.
        for rows, pair, missing in ((OPEN, ("a", "f"), ("no", "f")), (OPEN, ("b", "h"), ("no", "f")), (OPEN, ("b", "i"), ("no", "no")),
                                    (OPEN, ("b", "j"), ("no", "no")), ((LEVEL,), ("tank", "level"), ("valve", "flow"))):
            check_raises(self, Missing, {"unit": missing[0], "function": missing[1]}, written_program, rows, *pair)

    def test_refused(self):
        check_refusals(self, written_program, {"units": UNITS, "unit": "tank", "function": "level"}, {"unit": NO_NAMES, "function": NO_NAMES + ("flow",)})
