import unittest

from sevenruns.errors import NotUsable
from sevenruns.programclasses import Program
from sevenruns.runs import run_of
from tests.samples import HIDDEN, MIXED, MIXING, Q0, Q1, Q2, SPREAD, Wrong, check_raises, check_refusals, no_points

WRONG_LINES = (None, True, (), "add", ("add", 0), ("add", 0, 3), ("num", 1), ["num", Q0], ("mix", (), (Q0,)), ("add", 0, True))


def made(program):
    return Program(program[0], *program[1])


class Programs(unittest.TestCase):
    def test_what_it_tells(self):
        for program in (SPREAD, HIDDEN, MIXED, MIXING):
            thing = made(program)
            self.assertEqual(thing.told(), program)
            self.assertIs(thing.told().__class__, tuple)
            self.assertEqual(len(thing), len(program[1]))
            point = ((2, 1), (-3, 1), (1, 2))[:program[0]]
            self.assertEqual(thing.run(point), run_of(program, point))
            self.assertEqual(thing.run(point=point), run_of(program, point))
        self.assertEqual(made(SPREAD).breadth(), 2)
        self.assertEqual(Program(1, ("num", Q0)).breadth(), 0)
        self.assertEqual(Program(1, ("mix", (0,) * 3, (Q0,) * 8)).breadth(), 3)

    def test_then(self):
        short = Program(3, ("mul", 0, 1))
        longer = short.then(("mul", 0, 2))
        self.assertEqual(longer.then(line=("add", 3, 4)).told(), SPREAD)
        self.assertEqual(short.told(), (3, (("mul", 0, 1),)))
        self.assertIsInstance(longer, Program)
        self.assertIsNot(short, longer)
        self.assertEqual(longer.then(("mix", (4,), (Q0, Q1))).told()[1][2], ("mix", (4,), (Q0, Q1)))

    def test_equal(self):
        self.assertIs(made(SPREAD) == made(SPREAD), True)
        self.assertIs(made(SPREAD) == made(MIXING), False)
        self.assertIs(Program(1, ("num", Q0)) == Program(2, ("num", Q0)), False)
        self.assertIs(Program(1, ("num", Q0)) == Program(1, ("num", Q1)), False)
        for other in (SPREAD, None, True, (), 3, Wrong()):
            self.assertIs(made(SPREAD) == other, False)
        self.assertIs(made(SPREAD) != made(SPREAD), False)
        self.assertIs(Program(3, ("mul", 0, 1)).then(("mul", 0, 2)).then(("add", 3, 4)) == made(SPREAD), True)

    def test_refused_when_made(self):
        for size in (0, -1, True, None, "1", (1,), Q1):
            check_raises(self, NotUsable, {"word": "size", "at": -1}, Program, size)
            check_raises(self, NotUsable, {"word": "size", "at": -1}, Program, size, None)
        check_raises(self, NotUsable, {"word": "lines", "at": -1}, Program, 1)
        for line in WRONG_LINES:
            check_raises(self, NotUsable, {"word": "lines", "at": 0}, Program, 3, line)
            check_raises(self, NotUsable, {"word": "lines", "at": 1}, Program, 2, ("num", Q0), ("add", 0, 3))
            check_raises(self, NotUsable, {"word": "lines", "at": 1}, Program, 2, ("num", Q2), ("add", 0, 3), line)

    def test_refused_by_methods(self):
        check_refusals(self, made(SPREAD).run, {"point": (Q0, Q1, Q2)}, {"point": no_points(3)})
        check_refusals(self, Program(2, ("num", Q0)).then, {"line": ("add", 0, 2)}, {"line": WRONG_LINES})
