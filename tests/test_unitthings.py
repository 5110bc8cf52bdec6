import unittest

from sevenruns.unitthings import calls_in, function_in, functions_of, is_function, is_name, is_unit, is_units, missing_in
from tests.samples import NO_SPANS, Q0, Q1, Q2, TANK, UNIT, Wrong, check_refusals

LEVEL = TANK[1][0]
PLAIN = ("plain", (UNIT, UNIT), (("add", 0, 1), ("num", Q2), ("mul", 2, 3)), ((0, UNIT), (4, (Q0, Q2))))
SELF = ("self", (UNIT,), (("call", "pump", "self", (0, 0)), ("call", "pump", "gone", (1,))), ())
PUMP = ("pump", (("flow", (UNIT,), (("call", "tank", "level", (0,)), ("call", "tank", "level", (1,)),
                                    ("call", "pump", "self", (0, 2, 1))), ()), SELF))
UNITS = (PUMP, TANK)
ANYTHING = (None, True, 0, "", (), [], "x", ("x",), (None,) * 4, Wrong())


def with_entry(row, at, value):
    return row[:at] + (value,) + row[at + 1:]


def with_lines(*lines):
    return with_entry(PLAIN, 2, lines)


class UnitThings(unittest.TestCase):
    def check(self, function, right, wrong):
        for thing in right:
            with self.subTest(thing=thing):
                self.assertIs(function(thing=thing), True)
        for thing in wrong:
            with self.subTest(thing=thing):
                self.assertIs(function(thing), False)

    def test_example(self):
        self.assertEqual((functions_of((TANK,)), missing_in((TANK,))), ((("tank", "level"),), (("pump", "flow"),)))

    def test_names(self):
        self.check(is_name, ("a", "z", "abcdefgh"),
                   ("", "abcdefghi", "A", "a1", "a b", "a_b", "\u00e9", "\u00df", None, True, 1, ("a",), ["a"], Wrong()))

    def test_functions(self):
        right = (PLAIN, LEVEL, SELF, with_entry(PLAIN, 3, ()), ("f", ((Q1, Q1),), (("sub", 0, 0),), ((0, UNIT), (1, UNIT))))
        wrong = [thing for thing in ANYTHING] + [PLAIN[:3], PLAIN + (0,), list(PLAIN)]
        wrong += [with_entry(PLAIN, 0, name) for name in ("", "Plain", None, 3)]
        wrong += [with_entry(PLAIN, 1, box) for box in ((), [UNIT, UNIT], (UNIT, (Q1, Q0)), None, (UNIT, Q0), (UNIT,))]
        wrong += [with_entry(PLAIN, 2, lines) for lines in ((), [("num", Q0)], None, "num", (None,))]
        wrong += [with_entry(PLAIN, 3, keeps) for keeps in (
            None, [], ((5, UNIT),), ((-1, UNIT),), ((True, UNIT),), ((0, UNIT), (0, UNIT)), ((1, UNIT), (0, UNIT)),
            ([0, UNIT],), ((0,),), ((0, UNIT, 0),), (0, UNIT))]
        wrong += [with_entry(PLAIN, 3, ((0, span),)) for span in NO_SPANS]
        self.check(is_function, right, wrong)

    def test_lines_of_functions(self):
        keepless = with_entry(PLAIN, 3, ())
        right = (("call", "a", "b", (0,)), ("call", "plain", "plain", (1, 0, 1)), ("num", Q1), ("mul", 1, 1))
        wrong = (("mix", (0,), (Q0, Q1)), ("call", "a", "b", ()), ("call", "a", "b", (2,)), ("call", "a", "b", [0]),
                 ("call", "a", "b", (True,)), ("call", "a", "b", 0), ("call", "a", "b"), ("call", "a", "b", (0,), 0),
                 ("call", "", "b", (0,)), ("call", "a", "B", (0,)), ("call", None, "b", (0,)), ["call", "a", "b", (0,)],
                 ("walk", "a", "b", (0,)), ("num", "a", "b", (0,)), (None, "a", "b", (0,)), ("call", "a", "b", (-1,)), ("add", 0, 2), ("num", 1), ("add", 0), (), None, "call", ("call",))
        self.check(is_function, [with_entry(keepless, 2, (line,)) for line in right],
                   [with_entry(keepless, 2, (line,)) for line in wrong])
        # Behind a line there is one place more.
        behind = ("call", "a", "b", (2,))
        self.check(is_function, [with_entry(keepless, 2, (right[0], behind))], [with_entry(keepless, 2, (behind, right[0]))])

    def test_a_keep_of_any_place(self):
        for place in range(5):
            self.assertIs(is_function(with_entry(PLAIN, 3, ((place, UNIT),))), True)

    def test_a_unit(self):
        self.check(is_unit, (TANK, PUMP, ("a", (LEVEL, PLAIN))),
                   ANYTHING + (("a", ()), ("a", [LEVEL]), ("A", (LEVEL,)), ("a", (LEVEL, LEVEL)), ("a", (PLAIN, LEVEL)),
                               ("a", (LEVEL, None)), ("a", (LEVEL,), 0), ["a", (LEVEL,)], (None, (LEVEL,)), ("a", LEVEL)))

    def test_units(self):
        self.check(is_units, ((), (TANK,), UNITS),
                   (None, True, [], [TANK], TANK, (TANK, PUMP), (TANK, TANK), (PUMP, None), "", 0, Wrong()))

    def test_functions_of_and_missing_in(self):
        self.assertEqual(functions_of(()), ())
        self.assertEqual(missing_in(units=()), ())
        self.assertEqual(functions_of(UNITS), (("pump", "flow"), ("pump", "self"), ("tank", "level")))
        self.assertEqual(missing_in(UNITS), (("pump", "gone"),))
        self.assertEqual(missing_in((PUMP,)), (("pump", "gone"), ("tank", "level")))

    def test_function_in_and_calls_in(self):
        self.assertEqual(function_in(UNITS, "pump", "self"), SELF)
        self.assertEqual(calls_in(UNITS, "pump", "flow"), (("pump", "self"), ("tank", "level")))
        self.assertEqual(calls_in(UNITS, "pump", "self"), (("pump", "gone"), ("pump", "self")))
        self.assertEqual(calls_in((("a", (PLAIN,)),), "a", "plain"), ())

    def test_refused(self):
        right = {"units": UNITS, "unit": "pump", "function": "flow"}
        wrong = {"unit": ("gone", "", None, True, 0, ("pump",), PUMP), "function": ("level", "gone", None, 0, ("flow",))}
        for function in (function_in, calls_in):
            check_refusals(self, function, right, wrong)
            check_refusals(self, function, {**right, "units": ()}, {"unit": ("pump",)})
