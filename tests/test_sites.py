import unittest
from random import Random

from sevenruns.errors import Bent, Missing
from sevenruns.sites import all_sound, keeps_of, show_keep, show_site, sites_of
from sevenruns.things import is_point
from tests.kind_samples import corners_slowly
from tests.samples import NOTHINGS, Q0, Q1, Q2, UNIT, check_raises, check_refusals, frac, plain_run
from tests.test_unitkinds import NO_NAMES
from tests.unit_samples import BOTH, HAND_UNITS, LEVEL, MIXED, OPEN, UNITS, fun, is_open_slowly, random_units, run_slowly, tables, unit, units
from tests.unit_samples import written_slowly

NO_PLACES = NOTHINGS + (-1, (0,), Q0, "0")


def judged_slowly(rows, pair, place, span):
    """The word for a place whose form is of first degree, out of its values at all corners."""
    program = written_slowly(rows, pair, place)
    values = [plain_run(program, corner)[-1] for corner in corners_slowly(tables(rows)[pair][1])]
    near, far = frac(span[0]), frac(span[1])
    if near <= min(values) and max(values) <= far:
        return "always"
    return "never" if max(values) < near or far < min(values) else "sometimes"


def value_at(rows, pair, place, point):
    return plain_run(written_slowly(rows, pair, place), point)[-1]


def in_box_slowly(box, point):
    return is_point(len(box), point) and all(frac(near) <= frac(entry) <= frac(far) for (near, far), entry in zip(box, point))


class Sites(unittest.TestCase):
    def test_examples(self):
        self.assertEqual(sites_of(UNITS), (("tank", "level", 1, 0, "sometimes"), ("tank", "level", 1, 1, "always")))
        self.assertEqual(keeps_of(UNITS), (("tank", "level", 2, "sometimes"), ("tank", "level", 3, "always")))
        self.assertIsNone(show_keep(UNITS, "tank", "level", 3)[1])

    def test_by_hand(self):
        self.assertEqual(sites_of(units=OPEN), (
            ("a", "f", 0, 0, "always"), ("b", "g", 0, 0, "always"), ("b", "j", 0, 0, "always"), ("b", "j", 0, 1, "always"),
            ("b", "j", 1, 0, "always"), ("b", "j", 2, 0, "open")))
        self.assertEqual(keeps_of(units=OPEN), (("a", "f", 1, "open"), ("a", "f", 2, "open")))
        self.assertEqual(keeps_of(MIXED), (
            ("mix", "bent", 1, "always"), ("mix", "bent", 2, "bent"), ("mix", "bent", 3, "bent"), ("mix", "flat", 2, "bent"),
            ("mix", "flat", 4, "always"), ("mix", "gone", 3, "always"), ("mix", "gone", 5, "never"), ("mix", "knot", 0, "always"),
            ("mix", "knot", 7, "always"), ("out", "f", 3, "always"), ("out", "f", 4, "sometimes"), ("out", "f", 5, "never"), ("out", "f", 6, "sometimes")))
        self.assertEqual((sites_of((LEVEL,)), keeps_of((LEVEL,))), ((), (("tank", "level", 2, "sometimes"), ("tank", "level", 3, "open"))))
        self.assertEqual((sites_of(()), keeps_of(())), ((), ()))

    def test_sides_whose_ends_are_just_the_values(self):
        # x0 + x1 goes from 0 to 2.
        for side, word in ((((0, 1), (2, 1)), "always"), (((-1, 1), (3, 1)), "always"), (((1, 1000), (2, 1)), "sometimes"), (((0, 1), (1999, 1000)), "sometimes"),
                           (((2, 1), (5, 1)), "sometimes"), (((-1, 1), (0, 1)), "sometimes"), (((2001, 1000), (5, 1)), "never"), (((-3, 1), (-1, 1000)), "never"),
                           ((Q1, Q1), "sometimes")):
            rows = units(unit("a", fun("f", 2, ("add", 0, 1), ("call", "b", "f", (2,)), keeps=((2, side),))), unit("b", fun("f", 1, ("add", 0, 0), side=side)))
            self.assertEqual(sites_of(rows), (("a", "f", 1, 0, word),))
            self.assertEqual(keeps_of(rows), (("a", "f", 2, word),))
            for holds, fails in (show_site(rows, "a", "f", 1, 0), show_keep(rows, "a", "f", 2)):
                self.assertEqual((holds is None, fails is None), (word == "never", word == "always"))

    def test_a_box_with_one_point(self):
        rows = units(unit("a", fun("f", 2, ("sub", 0, 1), keeps=((2, (Q0, Q0)),), side=(Q2, Q2))))
        self.assertEqual(keeps_of(rows), (("a", "f", 2, "always"),))
        self.assertEqual(show_keep(rows, "a", "f", 2), ((Q2, Q2), None))

    def test_judged_whatever_other_sites_do(self):
        # What no run gets to, as a keep ahead of it never holds, is judged all the same.
        rows = units(unit("a", fun("f", 1, ("add", 0, 0), ("call", "a", "g", (1,)), keeps=((0, (Q2, Q2)), (1, (Q0, Q2)))), fun("g", 1, ("add", 0, 0))))
        self.assertEqual(keeps_of(rows), (("a", "f", 0, "never"), ("a", "f", 1, "always")))
        self.assertEqual(sites_of(rows), (("a", "f", 1, 0, "sometimes"),))

    def test_as_at_all_corners(self):
        rng = Random(711)
        for rows in [*HAND_UNITS] + [random_units(rng) for _ in range(150)]:
            functions = tables(rows)
            sites = [(*pair, k, number) for pair in sorted(functions) for k, line in enumerate(functions[pair][2])
                     if line[0] == "call" and line[1:3] in functions for number in range(len(line[3]))]
            self.assertEqual([row[:4] for row in sites_of(rows)], sites)
            self.assertEqual([row[:3] for row in keeps_of(rows)], [(*pair, keep[0]) for pair in sorted(functions) for keep in functions[pair][3]])
            for name, own, line, number, word in sites_of(rows):
                call = functions[(name, own)][2][line]
                self.check_word(rows, (name, own), call[3][number], functions[call[1:3]][1][number], word, show_site, (line, number))
            for name, own, place, word in keeps_of(rows):
                self.check_word(rows, (name, own), place, dict(functions[(name, own)][3])[place], word, show_keep, (place,))

    def check_word(self, rows, pair, place, span, word, show, given):
        if word == "open":
            self.assertTrue(is_open_slowly(rows, pair))
            with self.assertRaises(Missing):
                show(rows, *pair, *given)
        elif word == "bent":
            with self.assertRaises(Bent):
                show(rows, *pair, *given)
        elif not is_open_slowly(rows, pair):
            self.assertEqual(word, judged_slowly(rows, pair, place, span))
            points = show(rows, *pair, *given)
            self.assertEqual([point is None for point in points], [word == "never", word == "always"])
            for point, right in zip(points, (True, False)):
                if point is not None:
                    self.assertTrue(in_box_slowly(tables(rows)[pair][1], point))
                    self.assertEqual(frac(span[0]) <= value_at(rows, pair, place, point) <= frac(span[1]), right)

    def test_all_sound(self):
        for rows, sound in ((BOTH, True), (UNITS, False), ((LEVEL,), False), ((), True), (OPEN, False), (MIXED, False)):
            self.assertIs(all_sound(units=rows), sound)
        # Something missing, with nothing handed to it that is judged; a keep alone; a site alone; something bent.
        self.assertIs(all_sound(units(unit("a", fun("f", 1, ("call", "b", "f", (0,)))))), False)
        for keeps, sound in ((((1, (Q0, Q2)),), True), (((1, UNIT),), False), (((1, ((3, 1), (4, 1))),), False)):
            self.assertIs(all_sound(units(unit("a", fun("f", 1, ("add", 0, 0), keeps=keeps)))), sound)
        for side, sound in (((Q0, Q2), True), (UNIT, False)):
            rows = units(unit("a", fun("f", 1, ("add", 0, 0), ("call", "a", "g", (1,))), fun("g", 1, ("add", 0, 0), side=side)))
            self.assertIs(all_sound(rows), sound)
        bent = fun("f", 1, ("mul", 0, 0), keeps=((1, (Q0, Q2)),))
        self.assertIs(all_sound(units(unit("a", bent))), False)
        self.assertIs(all_sound(units(unit("a", bent[:3] + ((),)))), True)


class Show(unittest.TestCase):
    def test_by_hand(self):
        holds, fails = show_site(units=UNITS, unit="tank", function="level", line=1, number=0)
        self.assertTrue(in_box_slowly((UNIT, UNIT), holds) and in_box_slowly((UNIT, UNIT), fails))
        self.assertLessEqual(sum(frac(entry) for entry in holds), 1)
        self.assertGreater(sum(frac(entry) for entry in fails), 1)
        self.assertIsNone(show_keep(units=UNITS, unit="tank", function="level", place=3)[1])
        # A bare place.
        holds, fails = show_keep(MIXED, "mix", "gone", 5)
        self.assertIsNone(holds)
        self.assertTrue(in_box_slowly((UNIT, UNIT), fails))

    def test_missing_and_bent(self):
        check_raises(self, Missing, {"unit": "no", "function": "no"}, show_site, OPEN, "b", "j", 2, 0)
        check_raises(self, Missing, {"unit": "no", "function": "f"}, show_keep, OPEN, "a", "f", 1)
        check_raises(self, Missing, {"unit": "valve", "function": "flow"}, show_keep, (LEVEL,), "tank", "level", 3)
        check_raises(self, Bent, {"which": 0}, show_keep, MIXED, "mix", "bent", 2)
        # Place 1 of the call hands what is bent in x1 alone.
        rows = units(unit("a", fun("f", 2, ("mul", 1, 1), ("call", "a", "g", (0, 2))), fun("g", 2, ("add", 0, 1))))
        check_raises(self, Bent, {"which": 1}, show_site, rows, "a", "f", 1, 1)
        self.assertEqual(show_site(rows, "a", "f", 1, 0)[1], None)

    def test_of_an_open_function_what_has_a_kind(self):
        self.assertEqual(show_site(OPEN, "b", "j", 0, 1)[1], None)
        self.assertEqual(show_keep((LEVEL,), "tank", "level", 2)[1] is None, False)

    def test_refused(self):
        check_refusals(self, show_site, {"units": UNITS, "unit": "tank", "function": "level", "line": 1, "number": 0},
                       {"unit": NO_NAMES, "function": NO_NAMES + ("flow",), "line": NO_PLACES + (0, 2, 3), "number": NO_PLACES + (2,)})
        # A call of what is missing has no sites.
        check_refusals(self, show_site, {"units": OPEN, "unit": "b", "function": "j", "line": 0, "number": 0}, {"line": (3, 4), "number": (2, 3)})
        check_refusals(self, show_site, {"units": (LEVEL,), "unit": "tank", "function": "level", "line": 1, "number": 0}, {"line": (0, 1)})
        check_refusals(self, show_keep, {"units": UNITS, "unit": "tank", "function": "level", "place": 3},
                       {"unit": NO_NAMES, "function": NO_NAMES + ("flow",), "place": NO_PLACES + (0, 1, 4)})
        # True is not 1.
        self.assertEqual(show_keep(MIXED, "mix", "bent", 1)[1], None)
        check_refusals(self, show_keep, {"units": MIXED, "unit": "mix", "function": "bent", "place": 1}, {"place": (True, 0)})

    def test_number_ahead_of_a_misfit(self):
        rows = units(unit("a", fun("f", 1, ("call", "a", "g", (0, 0))), fun("g", 3, ("add", 0, 1))))
        check_refusals(self, show_site, {"units": BOTH, "unit": "pool", "function": "level", "line": 0, "number": 1}, {"number": (2,)})
        with self.assertRaises(ValueError) as caught:
            show_site(rows, "a", "f", 0, 2)
        self.assertEqual((caught.exception.word, caught.exception.at), ("number", -1))

    def test_runs_at_what_is_shown(self):
        holds, fails = show_site(MIXED, "out", "f", 1, 0)
        for point, inside in ((holds, True), (fails, False)):
            outside = run_slowly(MIXED, ("out", "f"), [frac(entry) for entry in point])[1]
            self.assertEqual(("mix", "flat") in outside, not inside)
