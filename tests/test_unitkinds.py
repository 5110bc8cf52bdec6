import unittest
from random import Random

from sevenruns.expanding import form_of
from sevenruns.kindmaking import kind_of
from sevenruns.unitkinds import kinds_of, place_kinds
from tests.kind_samples import MINUS, PAIRS_KIND
from tests.samples import NOTHINGS, Q0, Q1, Q2, check_refusals
from tests.unit_samples import BOTH, HAND_UNITS, LEVEL, MIXED, OPEN, UNITS, VALVE, fun, is_open_slowly, random_units, tables, unit, units
from tests.unit_samples import written_slowly

NO_NAMES = NOTHINGS + ("", "tanks", "Tank", ("tank",), ["tank"], 0, 1)
X, Y = ("first", Q0, Q1, 0), ("first", Q0, Q1, 1)
SUM = ("first", Q0, Q1, ("sum", ((1, 0), (1, 1))))


class Kinds(unittest.TestCase):
    def test_example(self):
        self.assertEqual(place_kinds(UNITS, "tank", "level")[3], X)

    def test_by_hand(self):
        self.assertEqual(kinds_of(units=UNITS), (("tank", "level", X), ("valve", "flow", ("first", Q0, Q1, ("sum", ((1, 0), (-1, 1)))))))
        self.assertEqual(kinds_of(BOTH)[0], ("pool", "level", ("first", Q0, Q1, ("product", ((Q0, 0), (Q1, 1))))))
        self.assertEqual(kinds_of((LEVEL,)), (("tank", "level", None),))
        self.assertEqual(kinds_of(()), ())
        self.assertEqual(kinds_of(OPEN), (("a", "f", None), ("a", "free", ("bent", (1, (((0, 0), Q1),)))), ("b", "g", None), ("b", "h", None),
                                          ("b", "i", None), ("b", "j", None)))
        self.assertEqual(kinds_of(MIXED), (("mix", "bent", ("bent", (2, (((0, 0), Q1), ((1,), Q1))))), ("mix", "flat", Y), ("mix", "gone", ("bare", (-3, 2))),
                                           ("mix", "knot", PAIRS_KIND), ("mix", "same", ("bent", (2, (((1,), Q1), ((1, 1), Q1))))),
                                           ("out", "f", ("first", Q0, Q1, ("sum", ((1, 0), (-1, 1)))))))

    def test_places_by_hand(self):
        self.assertEqual(place_kinds(units=UNITS, unit="tank", function="level"), (X, Y, SUM, X))
        self.assertEqual(place_kinds((LEVEL,), "tank", "level"), (X, Y, SUM, None))
        # Behind a call of what is missing or open only what does not read it has a kind, also if it is times nought.
        square = ("bent", (2, (((0, 0), Q1), ((0, 1), Q2), ((1, 1), Q1))))
        self.assertEqual(place_kinds(OPEN, "b", "i"), (X, Y, None, SUM, X, None, square, SUM))
        self.assertEqual(place_kinds(OPEN, "b", "j"), (X, Y, None, ("bent", (1, (((0, 0), Q1),))), None, ("bare", Q2)))
        self.assertEqual(place_kinds(OPEN, "a", "f"), (X, None, None))
        bent = ("bent", (2, (((0, 0), Q1), ((1,), Q1))))
        self.assertEqual(place_kinds(MIXED, "mix", "flat"), (X, Y, bent, ("bent", (1, (((0, 0), Q1),))), Y))
        self.assertEqual(place_kinds(MIXED, "mix", "gone"), (X, Y, ("bare", Q0), ("bare", Q0), ("bare", (-3, 2)), ("bare", (-3, 2))))
        nought = units(unit("a", fun("f", 1, ("num", Q0), ("call", "no", "no", (0,)), ("mul", 1, 2), ("sub", 2, 2))))
        self.assertEqual(place_kinds(nought, "a", "f"), (X, ("bare", Q0), None, None, None))

    def test_a_call_that_hands_what_has_no_kind(self):
        # The callee's kind does not hang on what is handed.
        rows = units(unit("a", fun("const", 1, ("num", Q2)), fun("f", 1, ("call", "no", "no", (0,)), ("call", "a", "const", (1,)))))
        self.assertEqual(place_kinds(rows, "a", "f"), (X, None, None))

    def test_one_place_handed_twice(self):
        rows = units(unit("a", fun("diff", 2, ("sub", 0, 1)), fun("f", 1, ("call", "a", "diff", (0, 0))), fun("g", 2, ("mul", 0, 1)),
                          fun("h", 1, ("call", "a", "g", (0, 0)))))
        self.assertEqual([row[2] for row in kinds_of(rows)], [("first", Q0, Q1, ("sum", ((1, 0), (-1, 1)))), ("bare", Q0),
                                                              ("first", Q0, Q1, ("product", ((Q0, 0), (Q0, 1)))), ("bent", (1, (((0, 0), Q1),)))])

    def test_forty_inputs(self):
        lines = [("add", 0, 1)] + [("add", 38 + k, k) for k in range(2, 40)]
        rows = units(unit("a", fun("sum", 40, *lines), fun("f", 40, ("call", "a", "sum", tuple(reversed(range(40)))), ("sub", 40, 3))))
        kinds = kinds_of(rows)
        self.assertEqual(kinds[1][2], ("first", Q0, Q1, ("sum", tuple((1, k) for k in range(40)))))
        self.assertEqual(kinds[0][2], ("first", Q0, Q1, ("sum", tuple((1, k) for k in range(40) if k != 3))))

    def test_as_written_out(self):
        rng = Random(691)
        for rows in [*HAND_UNITS] + [random_units(rng) for _ in range(150)]:
            for name, own, kind in kinds_of(rows):
                if is_open_slowly(rows, (name, own)):
                    self.assertIsNone(kind)
                    continue
                self.assertEqual(kind, kind_of(form_of(written_slowly(rows, (name, own)))))
                kinds = place_kinds(rows, name, own)
                self.assertEqual(kinds[-1], kind)
                for place in range(len(kinds)):
                    self.assertEqual(kinds[place], kind_of(form_of(written_slowly(rows, (name, own), place))))

    def test_as_many_as_there_are_places(self):
        for rows in HAND_UNITS:
            for (name, own), function in tables(rows).items():
                self.assertEqual(len(place_kinds(rows, name, own)), len(function[1]) + len(function[2]))
                self.assertEqual(place_kinds(rows, name, own)[:len(function[1])], tuple(("first", Q0, Q1, k) for k in range(len(function[1]))))

    def test_refused(self):
        check_refusals(self, place_kinds, {"units": UNITS, "unit": "tank", "function": "level"},
                       {"unit": NO_NAMES, "function": NO_NAMES + ("flow",)})
        check_refusals(self, place_kinds, {"units": (LEVEL, VALVE), "unit": "valve", "function": "flow"}, {"function": ("level",)})

    def test_shifts_through_calls(self):
        rows = units(unit("a", fun("f", 2, ("num", Q1), ("add", 0, 2), ("mul", 3, 1)), fun("g", 2, ("num", MINUS), ("add", 0, 2), ("call", "a", "f", (3, 1)))))
        self.assertEqual(kinds_of(rows)[1][2], ("first", Q0, Q1, ("product", ((Q0, 0), (Q0, 1)))))
