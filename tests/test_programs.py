import unittest
from random import Random

from sevenruns.errors import InvalidPaper
from sevenruns.programchecker import lets_program
from sevenruns.programs import breadth_of, degrees_of, is_plain, is_program
from tests.samples import HIDDEN, MIXED, MIXING, NO_QUOTIENTS, Q0, Q1, Q2, SPREAD, THRICE, TIGHT, Wrong, check_raises
from tests.samples import random_program

ALL_NOUGHT = (2, (("mix", (0, 1), (Q0, Q0, Q0, Q0)),))
RIGHT = (SPREAD, TIGHT, MIXING, HIDDEN, THRICE, MIXED, ALL_NOUGHT, (1, (("num", Q0),)), (1, (("add", 0, 0),)),
         (1, (("num", Q1), ("mul", 1, 1), ("sub", 2, 0))), (1, (("mix", (0,) * 8, (Q1,) * 256),)),
         (50, (("add", 49, 0),)), (1, (("mul", 0, 0),) * 300), (1, (("num", (10 ** 80, 3)),)))

# Each value that is no program, with the word and the number that tell why.
WRONG = [
    (None, "shape", -1), (True, "shape", -1), (1, "shape", -1), ("", "shape", -1), ((), "shape", -1),
    ((1,), "shape", -1), ([1, (("num", Q0),)], "shape", -1), ((1, (("num", Q0),), 0), "shape", -1),
    (Wrong(), "shape", -1),
    ((0, (("num", Q0),)), "size", -1), ((-1, ()), "size", -1), ((True, (("num", Q0),)), "size", -1),
    ((None, None), "size", -1), (((1,), (("num", Q0),)), "size", -1),
    ((1, ()), "lines", -1), ((1, [("num", Q0)]), "lines", -1), ((1, None), "lines", -1), ((1, "num"), "lines", -1),
    ((1, (None,)), "shape", 0), ((1, ((),)), "shape", 0), ((1, (["num", Q0],)), "shape", 0),
    ((1, (("num",),)), "shape", 0), ((1, (("num", Q0, Q0),)), "shape", 0), ((1, (("add", 0),)), "shape", 0),
    ((1, (("add", 0, 0, 0),)), "shape", 0), ((1, (("div", 0, 0),)), "shape", 0), ((1, ((0, 0, 0),)), "shape", 0),
    ((1, ((("add",), 0, 0),)), "shape", 0), ((1, (("call", "a", "b", (0,)),)), "shape", 0), ((1, ("add",)), "shape", 0),
    ((1, ((["add"], 0, 0),)), "shape", 0), ((1, (("mix", (0,)),)), "shape", 0), ((1, (("ADD", 0, 0),)), "shape", 0),
    ((1, (("num", Q0), ("mix", (0,), (Q0, Q1), 0))), "shape", 1),
    ((1, (("add", 0, 1),)), "place", 0), ((1, (("sub", 1, 0),)), "place", 0), ((1, (("mul", -1, 0),)), "place", 0),
    ((1, (("add", True, 0),)), "place", 0), ((2, (("add", 0, True),)), "place", 0), ((1, (("add", None, 0),)), "place", 0),
    ((2, (("add", 0, 1), ("mul", 2, 3))), "place", 1), ((2, (("add", 0, 1), ("mul", 0, 1), ("sub", 4, 1))), "place", 2),
    ((1, (("mix", (), (Q0,)),)), "reads", 0), ((1, (("mix", (0,) * 9, (Q0,) * 512),)), "reads", 0),
    ((1, (("mix", [0], (Q0, Q0)),)), "reads", 0), ((1, (("mix", (1,), (Q0, Q0)),)), "reads", 0),
    ((1, (("mix", (False,), (Q0, Q0)),)), "reads", 0), ((1, (("mix", 0, (Q0, Q0)),)), "reads", 0),
    ((1, (("mix", (0, 1), None),)), "reads", 0), ((1, (("num", Q0), ("mix", (0, 2), (Q0,) * 4))), "reads", 1),
    ((1, (("mix", (0,), (Q0,)),)), "numbers", 0), ((1, (("mix", (0,), (Q0, Q0, Q0)),)), "numbers", 0),
    ((1, (("mix", (0,), [Q0, Q0]),)), "numbers", 0), ((1, (("mix", (0,), (Q0, (2, 2))),)), "numbers", 0),
    ((1, (("mix", (0,), (1, Q0)),)), "numbers", 0), ((1, (("mix", (0, 0), (Q0, Q0)),)), "numbers", 0),
    ((1, (("num", Q0), ("mix", (0, 1), (Q0, Q0, Q0, (True, 1))))), "numbers", 1),
    # Of two faults the one that is told first.
    ((0, ()), "size", -1), ((1, (("num", 0), None)), "number", 0), ((1, (("add", 5, 0), ("num", 0))), "place", 0),
    ((1, (("mix", (1,), None), ("num", 0))), "reads", 0), ((1, (("mix", (0,), ()), ("add", 9, 9))), "numbers", 0),
]


class Programs(unittest.TestCase):
    def test_example(self):
        self.assertEqual((breadth_of(SPREAD), degrees_of(SPREAD), degrees_of((1, (("mul", 0, 0), ("mul", 1, 0))))),
                         (2, (2, 2, 2), (2, 3)))

    def test_what_is_a_program(self):
        for program in RIGHT:
            self.assertIs(is_program(program), True)
            self.assertEqual(lets_program(program), len(program[1]))
            self.assertEqual(lets_program(thing=program), len(program[1]))

    def test_what_is_none_and_why(self):
        for thing, word, at in WRONG + [((1, (("num", value),)), "number", 0) for value in NO_QUOTIENTS]:
            self.assertIs(is_program(thing), False)
            check_raises(self, InvalidPaper, {"word": word, "at": at}, lets_program, thing)

    def test_the_checker_accepts_just_the_programs(self):
        rng = Random(7)
        for _ in range(200):
            size, lines = random_program(rng, words=("add", "sub", "mul", "num", "mix"))
            self.assertEqual(lets_program((size, lines)), len(lines))
            self.assertIs(is_program((size - 1, lines[1:])), size > 1 and len(lines) > 1 and self.is_let(size - 1, lines[1:]))

    def is_let(self, size, lines):
        try:
            return lets_program((size, lines)) == len(lines)
        except InvalidPaper:
            return False

    def test_plain(self):
        for program in RIGHT:
            self.assertIs(is_plain(program), not any(line[0] == "mix" for line in program[1]))
        self.assertIs(is_plain((1, (("num", Q0), ("mix", (0,), (Q0, Q1)), ("add", 1, 2)))), False)

    def test_breadth(self):
        self.assertEqual(breadth_of((1, (("num", Q0), ("num", Q1)))), 0)
        self.assertEqual(breadth_of((1, (("mix", (0,), (Q0, Q1)),))), 1)
        self.assertEqual(breadth_of((1, (("mix", (0, 0, 0), (Q0,) * 8), ("add", 0, 1)))), 3)
        self.assertEqual(breadth_of((1, (("mix", (0,), (Q0, Q1)), ("mul", 0, 1)))), 2)
        self.assertEqual(breadth_of((1, (("mix", (0,) * 8, (Q1,) * 256),))), 8)

    def test_degrees(self):
        self.assertEqual(degrees_of((1, (("num", Q0), ("mul", 1, 0), ("mul", 1, 1), ("num", Q2)))), (0, 1, 0, 0))
        self.assertEqual(degrees_of((2, (("mul", 0, 1), ("add", 0, 2), ("sub", 3, 1), ("mul", 3, 4)))), (2, 2, 2, 4))
        self.assertEqual(degrees_of((1, (("sub", 0, 0), ("num", Q1), ("add", 2, 2)))), (1, 0, 0))
        self.assertEqual(degrees_of(ALL_NOUGHT), (0,))
        self.assertEqual(degrees_of(MIXED), (2,))

    def test_degrees_of_mixes(self):
        squared = ("mul", 0, 0)
        for numbers, degree in (((Q1, Q0, Q0, Q0), 0), ((Q1, Q2, Q0, Q0), 1), ((Q0, Q0, Q2, Q0), 2), ((Q0, Q1, Q2, Q0), 2),
                                ((Q0, Q0, Q0, (-1, 3)), 3), ((Q0, Q1, Q0, Q1), 3)):
            self.assertEqual(degrees_of((1, (squared, ("mix", (0, 1), numbers)))), (2, degree))
        self.assertEqual(degrees_of((1, (("num", Q0), ("mix", (1, 1), (Q0, Q0, Q0, Q1))))), (0, 0))
        self.assertEqual(degrees_of((1, (("mix", (0, 0, 0), (Q0,) * 7 + (Q1,)),))), (3,))
        self.assertEqual(degrees_of((1, (squared,) * 40)), (2,) * 40)
