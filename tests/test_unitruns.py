import unittest
from random import Random

from sevenruns.errors import Missing
from sevenruns.unitruns import out_of_sides, run_function
from tests.samples import Q0, Q1, Q2, UNIT, check_raises, check_refusals, frac, no_points, quot, some_points
from tests.test_unitkinds import NO_NAMES
from tests.unit_samples import BOTH, HAND_UNITS, LEVEL, MIXED, OPEN, UNITS, fun, is_open_slowly, random_units, run_slowly, tables, unit, units


class Runs(unittest.TestCase):
    def test_example(self):
        self.assertEqual(out_of_sides(UNITS, "tank", "level", (Q1, Q1)), (("valve", "flow"),))

    def test_by_hand(self):
        self.assertEqual(run_function(units=UNITS, unit="tank", function="level", point=(Q1, (1, 2))), Q1)
        self.assertEqual(run_function(UNITS, "tank", "level", ((9, 1), (-7, 2))), (9, 1))
        self.assertEqual(run_function(BOTH, "pool", "level", ((1, 2), (3, 1))), Q2)
        self.assertEqual(run_function(MIXED, "mix", "gone", ((5, 1), (7, 1))), (-3, 2))
        self.assertEqual(out_of_sides(units=UNITS, unit="tank", function="level", point=((1, 2), (1, 2))), ())
        # The function's own box does not matter.
        self.assertEqual(out_of_sides(UNITS, "valve", "flow", ((9, 1), (9, 1))), ())

    def test_also_by_lines_that_are_not_read_and_over_others(self):
        rows = units(unit("a", fun("f", 1, ("call", "b", "g", (0,)), ("num", Q1)), fun("top", 1, ("call", "a", "f", (0,)))),
                     unit("b", fun("g", 1, ("add", 0, 0), ("call", "b", "h", (1,)), side=(Q0, Q2)), fun("h", 1, ("sub", 0, 0), side=(Q0, Q2))))
        for point, outside in (((Q1,), ()), ((Q2,), (("a", "f"), ("b", "h"))), (((3, 1),), (("a", "f"), ("b", "g"), ("b", "h"))),
                               (((-1, 1000),), (("a", "f"), ("b", "g"), ("b", "h"))), ((Q0,), ())):
            self.assertEqual(out_of_sides(rows, "a", "top", point), outside)
            self.assertEqual(run_function(rows, "a", "top", point), Q1)

    def test_one_call_inside_and_one_outside(self):
        rows = units(unit("a", fun("f", 1, ("call", "a", "g", (0,)), ("num", (5, 1)), ("call", "a", "g", (2,)), ("call", "a", "g", (0,))), fun("g", 1, ("add", 0, 0))))
        self.assertEqual(out_of_sides(rows, "a", "f", (Q1,)), (("a", "g"),))
        self.assertEqual(run_function(rows, "a", "f", (Q1,)), Q2)

    def test_as_slowly(self):
        rng = Random(732)
        for rows in [*HAND_UNITS] + [random_units(rng) for _ in range(120)]:
            for pair, function in tables(rows).items():
                if not is_open_slowly(rows, pair):
                    for point in some_points(len(function[1]))[:20]:
                        value, outside = run_slowly(rows, pair, [frac(entry) for entry in point])
                        self.assertEqual(run_function(rows, *pair, point), quot(value))
                        self.assertEqual(out_of_sides(rows, *pair, point), tuple(sorted(set(outside))))

    def test_many_calls_of_one_at_the_same_points(self):
        # Each calls the next one twice, so that without keeping values there were 2 ** 100 runs.
        names = ["abcdefghijkl"[k // 12] + "abcdefghijkl"[k % 12] for k in range(100)]
        rows = units(*(unit(letter, *(fun(name, 1, *([("call", names[k + 1][0], names[k + 1], (0,))] * 2 if k < 99 else [("num", Q0), ("add", 0, 0)]), ("add", 1, 2))
                                      for k, name in enumerate(names) if name[0] == letter)) for letter in "abcdefghi"))
        self.assertEqual(run_function(rows, "a", "aa", (Q1,)), (2 ** 100, 1))

    def test_missing(self):
        for function, rows, pair, missing in ((run_function, OPEN, ("a", "f"), ("no", "f")), (out_of_sides, OPEN, ("b", "i"), ("no", "no")),
                                              (run_function, OPEN, ("b", "i"), ("no", "no")), (out_of_sides, (LEVEL,), ("tank", "level"), ("valve", "flow"))):
            point = (Q0,) * len(tables(rows)[pair][1])
            check_raises(self, Missing, {"unit": missing[0], "function": missing[1]}, function, rows, *pair, point)

    def test_refused(self):
        for function in (run_function, out_of_sides):
            check_refusals(self, function, {"units": UNITS, "unit": "tank", "function": "level", "point": (Q0, Q1)},
                           {"unit": NO_NAMES, "function": NO_NAMES + ("flow",), "point": no_points(2)})
            # Ahead of Missing.
            check_refusals(self, function, {"units": OPEN, "unit": "a", "function": "free", "point": (Q0,)}, {"point": no_points(1)})
            check_refusals(self, function, {"units": (LEVEL,), "unit": "tank", "function": "level", "point": ()}, {"point": (None, (UNIT, UNIT))})
