import unittest
from random import Random

from sevenruns.edits import kinds_after, made_anew
from sevenruns.errors import Misfit, NotUsable, Ringed
from sevenruns.packs import joined, pack_of
from sevenruns.sites import all_sound, keeps_of, show_keep, show_site, sites_of
from sevenruns.unitkinds import kinds_of, place_kinds
from sevenruns.unitlinks import misfits_in, order_of, rings_in
from sevenruns.unitruns import out_of_sides, run_function
from sevenruns.unitthings import functions_of
from sevenruns.written import written_program
from tests.samples import Q0, Q1, UNIT, check_raises
from tests.unit_samples import BOTH, HAND_UNITS, MISFIT_ROWS, MISFITS, MIXED, OPEN, RING, RING_AND_MISFIT, RING_PAIRS, SELF, UNITS
from tests.unit_samples import fun, random_units, tables, unit, units


def reaches_slowly(rows, start, goal, met=()):
    functions = tables(rows)
    called = [line[1:3] for line in functions[start][2] if line[0] == "call"] if start in functions else []
    return any(pair == goal or (pair not in met and reaches_slowly(rows, pair, goal, met + (pair,))) for pair in called)


class Rings(unittest.TestCase):
    def test_by_hand(self):
        for rows, pairs in ((SELF, (("a", "f"),)), (RING, RING_PAIRS), (RING_AND_MISFIT, (("a", "f"),)), (MISFITS, ()), ((), ())):
            self.assertEqual(rings_in(units=rows), pairs)
        for rows in HAND_UNITS:
            self.assertEqual(rings_in(rows), ())

    def test_two_rings_and_one_through_another(self):
        rows = units(unit("a", fun("f", 1, ("call", "b", "f", (0,))), fun("g", 1, ("call", "b", "g", (0,)), ("call", "a", "f", (0,)))),
                     unit("b", fun("f", 1, ("call", "a", "f", (0,))), fun("g", 1, ("call", "a", "g", (0,)))))
        self.assertEqual(rings_in(rows), (("a", "f"), ("a", "g"), ("b", "f"), ("b", "g")))

    def test_a_ring_that_only_a_missing_function_would_close(self):
        self.assertEqual(rings_in(units(unit("a", fun("f", 1, ("call", "b", "f", (0,)))))), ())

    def test_as_slowly(self):
        rng = Random(681)
        names = [(name, function) for name in "ab" for function in "fgh"]
        for _ in range(120):
            calls = {pair: [rng.choice(names + [("c", "x")]) for _ in range(rng.choice((0, 1, 1, 2)))] for pair in names}
            rows = units(*(unit(name, *(fun(pair[1], 1, ("num", Q0), *(("call", *callee, (0,)) for callee in calls[pair]))
                                        for pair in names if pair[0] == name)) for name in "ab"))
            self.assertEqual(rings_in(rows), tuple(pair for pair in names if reaches_slowly(rows, pair, pair)))


class Misfits(unittest.TestCase):
    def test_by_hand(self):
        self.assertEqual(misfits_in(units=MISFITS), MISFIT_ROWS)
        self.assertEqual(misfits_in(RING_AND_MISFIT), (("a", "f", 0),))
        for rows in HAND_UNITS + (SELF, RING):
            self.assertEqual(misfits_in(rows), ())


class Order(unittest.TestCase):
    def test_example(self):
        self.assertEqual(order_of(UNITS), (("valve", "flow"), ("tank", "level")))

    def test_by_hand(self):
        self.assertEqual(order_of(units=OPEN), (("a", "free"), ("b", "h"), ("b", "g"), ("a", "f"), ("b", "i"), ("b", "j")))
        self.assertEqual(order_of(MIXED), (("mix", "bent"), ("mix", "flat"), ("mix", "gone"), ("mix", "knot"), ("mix", "same"), ("out", "f")))
        self.assertEqual(order_of(()), ())
        self.assertEqual(order_of(MISFITS), (("b", "g"), ("a", "f"), ("b", "h")))

    def test_always_the_least_that_can_come(self):
        rng = Random(682)
        for _ in range(100):
            rows = random_units(rng)
            functions = tables(rows)
            left, order = sorted(functions), []
            while left:
                free = [pair for pair in left if not any(line[1:3] in left for line in functions[pair][2] if line[0] == "call")]
                order.append(free[0])
                left.remove(free[0])
            self.assertEqual(order_of(rows), tuple(order))
            self.assertEqual(tuple(sorted(order)), functions_of(rows))

    def test_a_long_chain(self):
        names = ["abcdefghijkl"[k // 12] + "abcdefghijkl"[k % 12] for k in range(144)]
        rows = units(*(unit(names[k], *(fun(names[j], 1, *([("call", names[j + 1][0] + "a", names[j + 1], (0,))] if j < 143 else [("add", 0, 0)]))
                                        for j in range(k, k + 12))) for k in range(0, 144, 12)))
        self.assertEqual(order_of(rows), tuple((name[0] + "a", name) for name in reversed(names)))
        self.assertEqual(run_function(rows, "aa", "aa", ((3, 1),)), (6, 1))
        self.assertEqual(out_of_sides(rows, "aa", "aa", ((3, 1),)), tuple((name[0] + "a", name) for name in names[1:]))
        self.assertEqual(written_program(rows, "aa", "aa"), (1, (("add", 0, 0),)))
        self.assertEqual(kinds_of(rows)[0], ("aa", "aa", ("first", Q0, (2, 1), 0)))


# What each function of stages 19 and 20 is handed behind the units, for a function a.f of one input.
CALLS = ((kinds_of, ()), (place_kinds, ("a", "f")), (pack_of, ()), (sites_of, ()), (keeps_of, ()), (all_sound, ()),
         (show_keep, ("a", "f", 0)), (show_site, ("a", "f", 0, 0)), (written_program, ("a", "f")), (made_anew, ((),)),
         (run_function, ("a", "f", (Q1,))), (out_of_sides, ("a", "f", (Q1,))))


def with_keep(rows):
    """The units with a keep on the first input of a.f, and a call of the missing z.z at its end."""
    return tuple((name, tuple((own[0], own[1], own[2] + (("call", "z", "z", (0,)),), ((0, UNIT),)) if (name, own[0]) == ("a", "f") else own
                              for own in functions)) for name, functions in rows)


class Sequence(unittest.TestCase):
    """Ringed ahead of Misfit ahead of all else, behind the errors of parameters."""

    def test_ringed_then_misfit(self):
        for function, given in CALLS + ((order_of, ()),):
            # SELF and RING have a ring and call what is missing, the third has a misfit, too.
            for rows in (SELF, RING, RING_AND_MISFIT):
                check_raises(self, Ringed, {"unit": "a", "function": "f"}, function, with_keep(rows), *given)
        for function, given in CALLS:
            check_raises(self, Misfit, {"unit": "a", "function": "f", "line": 0}, function, with_keep(MISFITS), *given)

    def test_the_first_ring(self):
        rows = units(unit("b", fun("f", 1, ("call", "b", "f", (0,))), fun("a", 1, ("num", Q0))), unit("c", fun("a", 1, ("call", "c", "a", (0,)))))
        check_raises(self, Ringed, {"unit": "b", "function": "f"}, kinds_of, rows)

    def test_parameters_come_first(self):
        for function, given in CALLS:
            for at, value in enumerate(given):
                for wrong in ("zz", None, True):
                    for rows in (with_keep(SELF), with_keep(MISFITS), with_keep(OPEN)):
                        with self.subTest(function=function, at=at, wrong=wrong):
                            with self.assertRaises(NotUsable):
                                function(rows, *given[:at], wrong, *given[at + 1:])

    def test_of_two_units_those_of_the_first_ahead(self):
        other = units(unit("b", fun("f", 1, ("call", "b", "f", (0,)))))
        check_raises(self, Ringed, {"unit": "a", "function": "f"}, made_anew, SELF, other)
        check_raises(self, Ringed, {"unit": "a", "function": "f"}, made_anew, UNITS, SELF)
        check_raises(self, Misfit, {"unit": "a", "function": "f", "line": 0}, made_anew, MISFITS, SELF)
        check_raises(self, Ringed, {"unit": "a", "function": "f"}, made_anew, RING_AND_MISFIT, MISFITS)
        check_raises(self, Ringed, {"unit": "a", "function": "f"}, kinds_after, UNITS, kinds_of(UNITS), RING_AND_MISFIT)
        check_raises(self, Misfit, {"unit": "a", "function": "f", "line": 0}, kinds_after, UNITS, kinds_of(UNITS), MISFITS)

    def test_joined(self):
        one = units(unit("a", fun("f", 1, ("call", "b", "g", (0,)))))
        ring = units(unit("b", fun("g", 1, ("call", "a", "f", (0, 0)))))
        misfit = units(unit("b", fun("g", 2, ("add", 0, 1))))
        check_raises(self, Ringed, {"unit": "a", "function": "f"}, joined, pack_of(one), pack_of(ring))
        check_raises(self, Misfit, {"unit": "a", "function": "f", "line": 0}, joined, pack_of(one), pack_of(misfit))

    def test_units_that_fit(self):
        for rows in HAND_UNITS + (BOTH,):
            self.assertEqual(len(kinds_of(rows)), len(functions_of(rows)))
