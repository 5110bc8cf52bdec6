import unittest
from random import Random

from sevenruns.coding import code_of
from sevenruns.errors import Bent, Broken, Misfit, Missing, NotUsable, Ringed, Trapped
from sevenruns.sites import keeps_of
from sevenruns.unitcode import run_unit_code, unit_code
from sevenruns.unitkinds import kinds_of, place_kinds
from tests.code_samples import BOX, CODE, whole_point
from tests.kind_samples import HALF
from tests.samples import NOTHINGS, Q0, Q1, Q2, UNIT, check_raises, check_refusals, no_points
from tests.test_unitkinds import NO_NAMES
from tests.unit_samples import LEVEL, MISFITS, OPEN, RING, RING_AND_MISFIT, SELF, UNITS, fun, random_units, tables, unit, units

TO_9, TO_3, HALVES = ((0, 1), (9, 1)), ((0, 1), (3, 1)), (Q0, HALF)
TANK = ("tank", (("level", BOX, (("mul", 0, 1), ("sub", 2, 0)), ((2, TO_9), (3, TO_9))),))
# Keeps of inputs, of constants and of others, that hold always, sometimes and never.
MANY = units(unit("a", ("f", BOX, (("call", "b", "g", (0, 1)), ("num", HALF), ("mul", 0, 1), ("sub", 2, 3)),
                        ((0, TO_3), (1, UNIT), (2, ((-4, 1), (-1, 1))), (3, (Q1, Q2)), (4, ((10, 1), (11, 1))), (5, ((-9, 1), (9, 1)))))),
             unit("b", fun("g", 2, ("sub", 0, 1), side=HALVES)))
# All keeps hold; there is none; one of a constant never holds.
SURE = units(unit("a", fun("all", 1, ("num", Q1), ("add", 0, 1), keeps=((0, UNIT), (1, (Q1, Q1)), (2, (Q1, Q2)))), fun("never", 1, ("num", (7, 3)), keeps=((1, UNIT),)),
                  fun("none", 1, ("add", 0, 0))))
# Squares in the last line, in the places of keeps, in both.
SQUARES = units(unit("a", fun("both", 2, ("mul", 0, 0), ("mul", 1, 1), ("sub", 2, 2), keeps=((2, UNIT), (3, UNIT))),
                     fun("half", 2, ("mul", 0, 0), keeps=((2, UNIT),), side=HALVES),
                     fun("keep", 2, ("mul", 1, 1), ("mul", 0, 0), ("add", 0, 1), keeps=((0, UNIT), (2, UNIT), (3, UNIT))),
                     fun("kind", 2, ("mul", 0, 0), ("mul", 1, 1), keeps=((2, UNIT),)),
                     fun("unread", 2, ("mul", 0, 0), ("add", 0, 1), keeps=((3, UNIT),))))
# An end that is not whole, in an open function, in a misfit, on a ring.
HALF_OPEN = units(unit("a", fun("f", 1, ("call", "z", "z", (0,)), side=HALVES)))


def with_whole_sides(rows):
    """The units with whole ends of all sides, keeps as they are."""
    whole = lambda side: tuple((quotient[0] // quotient[1], 1) for quotient in side)
    return tuple((name, tuple((own, tuple(map(whole, box)), lines, keeps) for own, box, lines, keeps in functions)) for name, functions in rows)


def one_row(integer, width, word="num"):
    """A code of one input and one row."""
    return (1, 1, ((word, integer, 0, width),))


class UnitCodes(unittest.TestCase):
    def check_made(self, rows, name, own):
        """The codes are those of the kinds, one for each keep whose word is not always."""
        made = unit_code(units=rows, unit=name, function=own)
        _, box, _, keeps = tables(rows)[(name, own)]
        kinds = place_kinds(rows, name, own)
        words = {row[2]: row[3] for row in keeps_of(rows) if row[:2] == (name, own)}
        doubtful = tuple((place, span, code_of(kinds[place], box)) for place, span in keeps if words[place] != "always")
        self.assertEqual(made, (code_of(kinds[-1], box), doubtful))
        return made

    def test_examples(self):
        made = unit_code((TANK,), "tank", "level")
        self.assertEqual((len(made[1]), made[1][0][:2], run_unit_code(made, ((2, 1), (3, 1)))), (1, (3, TO_9), (4, 1)))
        check_raises(self, Broken, {"place": 3}, run_unit_code, made, ((2, 1), (0, 1)))

    def test_keeps_that_hold_always_sometimes_and_never(self):
        keeps = self.check_made(MANY, "a", "f")[1]
        self.assertEqual([row[:2] for row in keeps], [(1, UNIT), (2, ((-4, 1), (-1, 1))), (3, (Q1, Q2)), (4, ((10, 1), (11, 1)))])
        self.assertEqual(keeps[0][2], (2, 1, (("in", 1, 0, 3),)))
        self.assertEqual(keeps[2][2], (2, 2, (("num", 1, 0, 2),)))
        self.assertEqual(self.check_made(SURE, "a", "all")[1], ())
        self.assertEqual(self.check_made(SURE, "a", "none")[1], ())
        self.assertEqual(unit_code(SURE, "a", "never"), ((1, 3, (("num", 7, 0, 4),)), ((1, UNIT, (1, 3, (("num", 7, 0, 4),))),)))

    def test_sites_do_not_matter(self):
        # b.g is handed what its sides do not hold, some of them not whole.
        self.assertEqual(tables(MANY)[("b", "g")][1], (HALVES, HALVES))
        self.assertEqual(self.check_made(UNITS, "tank", "level")[1][0][:2], (2, UNIT))

    def test_as_codes_of_kinds(self):
        rng = Random(821)
        many = 0
        for _ in range(200):
            rows = with_whole_sides(random_units(rng))
            for name, own, kind in kinds_of(rows):
                if kind is not None and kind[0] != "bent":
                    kinds = place_kinds(rows, name, own)
                    if all(kinds[place][0] != "bent" for place, _ in tables(rows)[(name, own)][3]):
                        many += 1
                        self.check_made(rows, name, own)
        self.assertGreater(many, 100)

    def test_refused(self):
        for rows in (UNITS, MANY):
            check_refusals(self, unit_code, {"units": rows, "unit": rows[0][0], "function": rows[0][1][0][0]}, {"unit": NO_NAMES, "function": NO_NAMES + ("flow",)})
        # Ahead of rings, misfits and what is missing.
        for rows in (SELF, RING, MISFITS, RING_AND_MISFIT, OPEN, SQUARES, HALF_OPEN):
            check_refusals(self, unit_code, {"units": rows, "unit": "a", "function": rows[0][1][0][0]}, {"unit": NO_NAMES, "function": NO_NAMES})

    def test_rings_and_misfits(self):
        check_raises(self, Ringed, {"unit": "a", "function": "f"}, unit_code, SELF, "a", "f")
        # Anywhere in the units; a ring comes first, also ahead of what is missing.
        check_raises(self, Ringed, {"unit": "a", "function": "f"}, unit_code, SELF, "a", "g")
        check_raises(self, Ringed, {"unit": "a", "function": "f"}, unit_code, RING, "c", "out")
        check_raises(self, Ringed, {"unit": "a", "function": "f"}, unit_code, RING_AND_MISFIT, "a", "f")
        check_raises(self, Misfit, {"unit": "a", "function": "f", "line": 0}, unit_code, MISFITS, "b", "g")
        # Ahead of what is missing, of ends that are not whole and of what is bent.
        rows = units(unit("a", fun("f", 1, ("call", "z", "z", (0,)), side=HALVES), fun("g", 1, ("mul", 0, 0)), fun("h", 1, ("call", "a", "g", (0, 0)))))
        for own in "fgh":
            check_raises(self, Misfit, {"unit": "a", "function": "h", "line": 0}, unit_code, rows, "a", own)

    def test_missing(self):
        for pair, missing in ((("b", "h"), ("no", "f")), (("b", "g"), ("no", "f")), (("a", "f"), ("no", "f")), (("b", "i"), ("no", "no")), (("b", "j"), ("no", "no"))):
            check_raises(self, Missing, {"unit": missing[0], "function": missing[1]}, unit_code, OPEN, *pair)
        check_raises(self, Missing, {"unit": "valve", "function": "flow"}, unit_code, (LEVEL,), "tank", "level")
        # Ahead of ends that are not whole, and of a bent keep.
        check_raises(self, Missing, {"unit": "z", "function": "z"}, unit_code, HALF_OPEN, "a", "f")
        rows = units(unit("a", fun("f", 1, ("mul", 0, 0), ("call", "z", "z", (0,)), keeps=((1, UNIT),))))
        check_raises(self, Missing, {"unit": "z", "function": "z"}, unit_code, rows, "a", "f")

    def test_ends_that_are_not_whole(self):
        for box in ((HALVES, UNIT), (UNIT, HALVES), (UNIT, (HALF, HALF)), ((HALF, Q1), UNIT)):
            for line in (("add", 0, 1), ("num", Q0), ("mul", 0, 0)):
                rows = units(unit("a", ("f", box, (line,), ((2, UNIT),))))
                check_raises(self, NotUsable, {"word": "function", "at": -1}, unit_code, rows, "a", "f")
        check_raises(self, NotUsable, {"word": "function", "at": -1}, unit_code, SQUARES, "a", "half")
        # Those of other functions and of keeps do not matter.
        rows = units(unit("a", fun("f", 1, ("add", 0, 0), keeps=((1, HALVES),)), fun("g", 1, ("add", 0, 0), side=HALVES)))
        self.assertEqual(unit_code(rows, "a", "f")[1][0][:2], (1, HALVES))

    def test_bent(self):
        # The function's kind comes ahead of those of keeps, and of these the least place.
        check_raises(self, Bent, {"which": 1}, unit_code, SQUARES, "a", "kind")
        check_raises(self, Bent, {"which": 0}, unit_code, SQUARES, "a", "both")
        check_raises(self, Bent, {"which": 1}, unit_code, SQUARES, "a", "keep")
        # A bent line of which no keep is does not matter.
        self.assertEqual(unit_code(SQUARES, "a", "unread")[1][0][:2], (3, UNIT))


class RunsOfUnitCodes(unittest.TestCase):
    def test_by_hand(self):
        made = unit_code(SURE, "a", "all")
        self.assertEqual([run_unit_code(made=made, point=whole_point((k,))) for k in (0, 1)], [Q1, Q2])
        made = unit_code(MANY, "a", "f")
        # x1 in 0 to 1, then x0 - x1 in -4 to -1, then 1/2 in 1 to 2, which never holds.
        for numbers, place in (((0, 2), 1), ((0, 0), 2), ((3, 1), 2), ((0, 1), 3), ((3, 3), 1)):
            check_raises(self, Broken, {"place": place}, run_unit_code, made, whole_point(numbers))
        check_raises(self, Broken, {"place": 1}, run_unit_code, unit_code(SURE, "a", "never"), (Q0,))

    def test_one_by_one(self):
        # A keep that is broken comes ahead of the next code, whose row does not fit, and the other way round.
        fits, bad = (0, TO_9, one_row(3, 3)), (1, (Q0, Q1), one_row(3, 3))
        stops = (2, TO_9, one_row(3, 2))
        for keeps, code, error, fields in (
                ((fits, bad, stops), one_row(3, 2), Broken, {"place": 1}), ((fits, stops), one_row(0, 1), Trapped, {"row": 0}),
                ((fits, (1, *stops[1:]), (2, *bad[1:])), one_row(0, 1), Trapped, {"row": 0}), ((fits,), one_row(3, 2), Trapped, {"row": 0}),
                ((bad,), one_row(3, 2), Broken, {"place": 1}), ((), one_row(3, 2), Trapped, {"row": 0})):
            check_raises(self, error, fields, run_unit_code, (code, keeps), (Q0,))
        self.assertEqual(run_unit_code((one_row(3, 3), (fits,)), (Q0,)), (3, 1))

    def test_the_row_that_does_not_fit(self):
        narrow = CODE[:2] + (CODE[2][:3] + (("sub", 2, 0, 3),),)
        low, high = whole_point((3, 3)), whole_point((0, 0))
        wide = ((-100, 1), (100, 1))
        for made in ((narrow, ()), (CODE, ((7, wide, narrow),)), (narrow, ((7, wide, CODE),))):
            check_raises(self, Trapped, {"row": 3}, run_unit_code, made, low)
            self.assertEqual(run_unit_code(made, high), Q0)
        check_raises(self, Trapped, {"row": 1}, run_unit_code, (CODE, ((0, wide, narrow),)), whole_point((0, 4)))

    def test_spans_hold_their_ends(self):
        for number, holds in ((0, False), (1, True), (2, True), (3, False)):
            made = (one_row(0, 3, "in"), ((5, ((1, 2), (2, 1)), one_row(0, 3, "in")),))
            if holds:
                self.assertEqual(run_unit_code(made, whole_point((number,))), (number, 1))
            else:
                check_raises(self, Broken, {"place": 5}, run_unit_code, made, whole_point((number,)))
        half = ((1, 2, (("in", 0, 0, 3),)), ((5, (HALF, HALF), (1, 2, (("in", 0, 0, 3),))),))
        self.assertEqual(run_unit_code(half, (Q1,)), HALF)
        check_raises(self, Broken, {"place": 5}, run_unit_code, half, (Q2,))

    def test_refused(self):
        made = unit_code((TANK,), "tank", "level")
        for right in (made, (CODE, ()), ((2, 1, (("num", 9, 0, 1),)), ((0, (Q0, Q0), (2, 1, (("num", 9, 0, 1),))),))):
            check_refusals(self, run_unit_code, {"made": right, "point": ((0, 1), (0, 1))},
                           {"point": no_points(2) + NOTHINGS + ((HALF, Q0), (Q0, HALF), (Q0, (4, 2)), ((0, 1), (True, 1)))})
