import unittest
from itertools import product
from random import Random

from sevenruns.copies import copies_of, copy_change, run_copies, written_line
from sevenruns.plaintexts import quotient_word
from sevenruns.runs import run_of
from sevenruns.spreads import spread_of
from tests.samples import HIDDEN, MIXED, MIXING, NOTHINGS, Q0, Q1, Q2, SPREAD, TIGHT, check_refusals, form_value, frac
from tests.samples import no_points, quot, random_number, random_program

BARE = (2, (("num", (3, 2)), ("sub", 2, 2)))
TWICE = (1, (("add", 0, 0), ("mul", 0, 1)))
WORDS = ("add", "sub", "mul", "num", "mix", "add", "mul")


def written_out(program, place):
    """The inputs of the copies, the string, and a function of the copies' numbers, by another way."""
    size, lines = program
    if place < size:
        return [place], f"x{place}", lambda numbers: numbers[0]
    line = lines[place - size]
    if line[0] == "num":
        return [], quotient_word(line[1]), lambda numbers: frac(line[1])
    parts = [written_out(program, read) for read in (line[1] if line[0] == "mix" else line[1:])]
    copies = [copy for part in parts for copy in part[0]]

    def values(numbers):
        found, start = [], 0
        for part in parts:
            found.append(part[2](numbers[start:start + len(part[0])]))
            start += len(part[0])
        return found

    if line[0] == "mix":
        text = "mix(" + "; ".join([" ".join(map(quotient_word, line[2]))] + [part[1] for part in parts]) + ")"
        return copies, text, lambda numbers: mixed(line[2], values(numbers))
    sign = {"add": "+", "sub": "-", "mul": "*"}[line[0]]
    return copies, f"({parts[0][1]} {sign} {parts[1][1]})", lambda numbers: reckoned(sign, *values(numbers))


def reckoned(sign, one, other):
    return one + other if sign == "+" else one - other if sign == "-" else one * other


def mixed(numbers, values):
    total = 0
    for s, number in enumerate(numbers):
        term = frac(number)
        for j, value in enumerate(values):
            term *= value if s >> j & 1 else 1
        total += term
    return total


def small_programs(many, most_copies):
    rng = Random(21)
    found = [SPREAD, TIGHT, MIXING, MIXED, HIDDEN, BARE, TWICE]
    while len(found) < many:
        program = random_program(rng, words=WORDS)
        if len(written_out(program, program[0] + len(program[1]) - 1)[0]) <= most_copies:
            found.append(program)
    return found


class Copies(unittest.TestCase):
    def test_examples(self):
        self.assertEqual(copies_of(SPREAD), (0, 1, 0, 2))
        self.assertEqual(written_line((2, (("num", (3, 2)), ("mix", (1, 2), (Q0, Q1, Q0, Q2)), ("sub", 3, 0)))),
                         "(mix(0 1 0 2; x1; 3/2) - x0)")
        self.assertEqual(run_copies(SPREAD, (Q1, Q2, (-1, 1), (3, 1))), (-1, 1))
        self.assertEqual(copy_change(SPREAD, (Q1, Q2, (5, 1)), 2), (5, 1))
        self.assertEqual(spread_of((1, (("add", 0, 0), ("mul", 0, 1)))), (3, (((0, 1), (1, 1)), ((0, 2), (1, 1)))))

    def test_written_lines(self):
        self.assertEqual(written_line(program=SPREAD), "((x0 * x1) + (x0 * x2))")
        self.assertEqual(written_line((1, (("num", (-1, 2)),))), "-1/2")
        self.assertEqual(written_line(BARE), "(3/2 - 3/2)")
        self.assertEqual(written_line((1, (("mix", (0, 0), (Q0,) * 4),))), "mix(0 0 0 0; x0; x0)")
        self.assertEqual(written_line((1, (("mul", 0, 0), ("num", Q0), ("add", 0, 0)))), "(x0 + x0)")

    def test_as_written_out_by_another_way(self):
        rng = Random(22)
        for program in small_programs(150, 60):
            copies, text, function = written_out(program, program[0] + len(program[1]) - 1)
            self.assertEqual(copies_of(program=program), tuple(copies))
            self.assertEqual(written_line(program), text)
            for _ in range(3):
                numbers = tuple(random_number(rng) for _ in copies)
                value = function([frac(number) for number in numbers])
                self.assertEqual(run_copies(program=program, numbers=numbers), quot(value))
                point = tuple(random_number(rng) for _ in range(program[0]))
                own = tuple(point[which] for which in copies)
                self.assertEqual(run_copies(program, own), run_of(program, point))
                for copy in range(len(copies)):
                    one_up = [frac(number) + (k == copy) for k, number in enumerate(own)]
                    change = function(one_up) - frac(run_of(program, point))
                    self.assertEqual(copy_change(program=program, point=point, copy=copy), quot(change))

    def test_form_over_copies(self):
        for program in small_programs(80, 8):
            copies, _, function = written_out(program, program[0] + len(program[1]) - 1)
            if not copies:
                continue
            form = spread_of(program=program)
            self.assertEqual(form[0], len(copies))
            self.assertTrue(all(len(set(bundle)) == len(bundle) for bundle, _ in form[1]))
            for numbers in list(product((Q0, Q1, (-3, 2)), repeat=min(len(copies), 5)))[:60]:
                numbers = numbers + (Q2,) * (len(copies) - len(numbers))
                self.assertEqual(form_value(form, numbers), function([frac(number) for number in numbers]))
                self.assertEqual(frac(run_copies(program, numbers)), form_value(form, numbers))

    def test_programs_without_copies(self):
        self.assertEqual(copies_of(BARE), ())
        self.assertEqual(run_copies(BARE, ()), Q0)
        self.assertEqual(copies_of((3, (("num", Q2),))), ())

    def test_one_line_read_often(self):
        doubled = (1, tuple(("add", k, k) for k in range(5)))
        self.assertEqual(copies_of(doubled), (0,) * 32)
        self.assertEqual(run_copies(doubled, tuple((k, 1) for k in range(32))), (496, 1))
        self.assertEqual(copy_change(doubled, (Q2,), 31), Q1)

    def test_lines_that_nothing_reads_are_not_written_out(self):
        long = tuple(("mul", k, k) for k in range(39)) + (("sub", 0, 0),)
        self.assertEqual(copies_of((1, long)), (0, 0))
        self.assertEqual(written_line((1, long)), "(x0 - x0)")
        self.assertEqual(run_copies((1, long), (Q2, Q1)), Q1)
        self.assertEqual(spread_of((1, long)), (2, (((0,), Q1), ((1,), (-1, 1)))))

    def test_many_nums_are_no_copies(self):
        # The term is great, but it has one copy only.
        lines = (("num", Q1),) + tuple(("mul", k, k) for k in range(1, 38)) + (("mul", 38, 0),)
        self.assertEqual(copies_of((1, lines)), (0,))
        self.assertEqual(run_copies((1, lines), ((7, 3),)), (7, 3))
        self.assertEqual(spread_of((1, lines)), (1, (((0,), Q1),)))

    def test_refused(self):
        check_refusals(self, run_copies, {"program": SPREAD, "numbers": (Q0,) * 4}, {"numbers": no_points(4)})
        check_refusals(self, run_copies, {"program": BARE, "numbers": ()}, {"numbers": (None, (Q0,), [])})
        check_refusals(self, copy_change, {"program": SPREAD, "point": (Q0,) * 3, "copy": 0},
                       {"point": no_points(3), "copy": (4, -1, (0,)) + NOTHINGS})
        check_refusals(self, copy_change, {"program": BARE, "point": (Q0,) * 2, "copy": 0},
                       {"copy": (0,)})
        check_refusals(self, spread_of, {"program": SPREAD}, {"program": (BARE, (1, (("num", Q2),)))})
