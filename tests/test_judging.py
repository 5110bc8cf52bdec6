import unittest
from random import Random

from sevenruns.boxes import in_box
from sevenruns.building import program_of
from sevenruns.errors import Bent, InvalidPaper
from sevenruns.judging import check_holds, is_check, judged
from sevenruns.kindmaking import kind_of
from sevenruns.kindspans import span_by
from sevenruns.kindthings import value_by
from sevenruns.reaching import point_with
from sevenruns.showing import lets_shown, shown
from tests.kind_samples import BARE_KIND, BENT_KIND, GAP_KIND, PAIRS_KIND, SQUARE_KIND, TIGHT_KIND, no_kind_boxes, random_structured
from tests.kind_samples import small_kinds, some_box, value_slowly
from tests.samples import MIXED, MIXING, NOTHINGS, NO_QUOTIENTS, NO_SPANS, Q0, Q1, Q2, SPREAD, SQUARE, UNIT, check_raises, check_refusals
from tests.samples import frac, no_boxes, no_points, plain_run, quot

BOX = (((-1, 1), (2, 1)), UNIT, UNIT)
CHECKS = (("inside", UNIT), ("below", Q0), ("above", (1, 2)), ("is", Q2), ("inside", (Q1, Q1)))
NO_CHECKS = NOTHINGS + (0, (), ("below",), ("below", 4), ("below", Q1, Q1), ["below", Q1], ("inside", Q1), ("is", UNIT), ("inside", (Q1, Q0)),
                        ("under", Q1), (None, Q1), ("above", (2, 4)), ("is", (True, 1)), (["is"], Q1), (0, Q1), ("inside", UNIT, 0))


def holds_slowly(check, value):
    word, limit = check
    if word == "inside":
        return frac(limit[0]) <= value <= frac(limit[1])
    return {"below": value < frac(limit), "above": value > frac(limit), "is": value == frac(limit)}[word]


def boxed_kinds(seed, many=120):
    rng = Random(seed)
    rows = [(kind, some_box(rng, 8)) for kind in small_kinds()] + [(BARE_KIND, ()), (BARE_KIND, (UNIT,))]
    for _ in range(many):
        form = random_structured(rng, most=5)
        rows.append((kind_of(form), some_box(rng, form[0])))
    return rows


def quotients_about(span):
    """The ends of the span, quotients between them, and beyond them."""
    near, far = frac(span[0]), frac(span[1])
    return [quot(value) for value in (near, far, (near + far) / 2, near + (far - near) / 7, near - 1, far + 1, near - (far - near), 0)]


def checks_about(span):
    numbers = quotients_about(span)
    found = [(word, number) for word in ("below", "above", "is") for number in numbers]
    return found + [("inside", (low, high)) for low in numbers for high in numbers if frac(low) <= frac(high)]


class Reaching(unittest.TestCase):
    def test_example(self):
        self.assertEqual(value_by(TIGHT_KIND, point_with(TIGHT_KIND, BOX, (7, 3))), (7, 3))

    def test_points(self):
        for kind, box in boxed_kinds(241):
            span = span_by(kind, box)
            for quotient in quotients_about(span):
                point = point_with(kind=kind, box=box, quotient=quotient)
                if not frac(span[0]) <= frac(quotient) <= frac(span[1]):
                    self.assertIsNone(point)
                    continue
                self.assertIs(in_box(box, point), True)
                self.assertEqual(value_slowly(kind, point), frac(quotient))
                self.assertLessEqual(sum(entry not in side for entry, side in zip(point, box)), 1)

    def test_bare_and_forty(self):
        self.assertEqual(point_with(BARE_KIND, (), (-5, 2)), ())
        self.assertIsNone(point_with(BARE_KIND, (), Q0))
        self.assertIn(point_with(BARE_KIND, (UNIT,), (-5, 2)), [(Q0,), (Q1,)])
        box = (UNIT,) * 40
        point = point_with(GAP_KIND, box, (1, 3))
        self.assertEqual(value_by(GAP_KIND, point), (1, 3))
        self.assertEqual(len(point), 40)

    def test_refused(self):
        for kind, box in ((TIGHT_KIND, BOX), (BENT_KIND, (UNIT, UNIT))):
            check_refusals(self, point_with, {"kind": kind, "box": box, "quotient": Q1},
                           {"box": no_kind_boxes(len(box)), "quotient": NO_QUOTIENTS})
        check_refusals(self, point_with, {"kind": BARE_KIND, "box": (), "quotient": Q1}, {"box": NOTHINGS, "quotient": NO_QUOTIENTS})
        check_raises(self, Bent, {"which": 1}, point_with, BENT_KIND, (UNIT, UNIT), Q1)


class Judging(unittest.TestCase):
    def test_examples(self):
        self.assertEqual((is_check(("below", 4)), check_holds(("below", (4, 1)), (4, 1))), (False, False))
        self.assertEqual(judged(TIGHT_KIND, BOX, ("below", (4, 1))), "sometimes")
        self.assertEqual(judged(TIGHT_KIND, BOX, ("above", (4, 1))), "never")
        self.assertEqual(judged(TIGHT_KIND, BOX, ("inside", ((-2, 1), (4, 1)))), "always")

    def test_checks(self):
        for check in CHECKS:
            self.assertIs(is_check(thing=check), True)
        for thing in NO_CHECKS:
            self.assertIs(is_check(thing), False)
        for limit in NO_QUOTIENTS:
            for word in ("below", "above", "is"):
                self.assertIs(is_check((word, limit)), False)
        for limit in NO_SPANS:
            self.assertIs(is_check(("inside", limit)), False)

    def test_check_holds(self):
        for check in CHECKS:
            for value in ((-1, 1), Q0, (1, 3), (1, 2), (2, 3), Q1, Q2, (7, 3)):
                self.assertIs(check_holds(check=check, quotient=value), holds_slowly(check, frac(value)))
            check_refusals(self, check_holds, {"check": check, "quotient": Q1}, {"quotient": NO_QUOTIENTS})

    def test_judged(self):
        found = {}
        for kind, box in boxed_kinds(242):
            span = span_by(kind, box)
            low, high = frac(span[0]), frac(span[1])
            for check in checks_about(span):
                word = judged(kind=kind, box=box, check=check)
                # The values are all from low to high.
                at_ends = [holds_slowly(check, low), holds_slowly(check, high)]
                if check[0] == "inside":
                    never = frac(check[1][1]) < low or high < frac(check[1][0])
                elif check[0] == "is":
                    never = not low <= frac(check[1]) <= high
                else:
                    never = not any(at_ends)
                self.assertEqual(word, "always" if all(at_ends) else "never" if never else "sometimes")
                found[(check[0], word)] = found.get((check[0], word), 0) + 1
        self.assertEqual(len(found), 12)

    def test_at_just_one_end(self):
        for check, word in ((("is", (4, 1)), "sometimes"), (("is", (-2, 1)), "sometimes"), (("above", (-2, 1)), "sometimes"),
                            (("below", (-2, 1)), "never"), (("above", (-3, 1)), "always"), (("below", (5, 1)), "always"),
                            (("inside", ((4, 1), (5, 1))), "sometimes"), (("inside", ((-3, 1), (-2, 1))), "sometimes"),
                            (("inside", ((5, 1), (6, 1))), "never"), (("inside", ((-1, 1), Q0)), "sometimes"),
                            (("inside", ((-2, 1), (3, 1))), "sometimes")):
            self.assertEqual(judged(TIGHT_KIND, BOX, check), word)
        self.assertEqual(judged(BARE_KIND, (), ("is", (-5, 2))), "always")
        self.assertEqual(judged(BARE_KIND, (), ("above", (-5, 2))), "never")
        self.assertEqual(judged(TIGHT_KIND, ((Q2, Q2), (Q1, Q1), (Q0, Q0)), ("is", Q2)), "always")

    def test_refused(self):
        for function in (judged, shown):
            for kind, box in ((TIGHT_KIND, BOX), (BENT_KIND, (UNIT, UNIT))):
                check_refusals(self, function, {"kind": kind, "box": box, "check": CHECKS[0]},
                               {"box": no_kind_boxes(len(box)), "check": NO_CHECKS})
            check_refusals(self, function, {"kind": BARE_KIND, "box": (), "check": CHECKS[0]}, {"box": NOTHINGS, "check": NO_CHECKS})
            for check in CHECKS:
                check_raises(self, Bent, {"which": 0}, function, SQUARE_KIND, (UNIT,), check)


class Showing(unittest.TestCase):
    def refused(self, program, box, check, thing, word):
        check_raises(self, InvalidPaper, {"word": word, "at": -1}, lets_shown, program, box, check, thing)

    def test_examples(self):
        self.assertEqual(shown(TIGHT_KIND, BOX, ("is", (4, 1)))[0], ((2, 1), (1, 1), (1, 1)))
        self.assertEqual(lets_shown(SPREAD, BOX, ("below", Q1), (((2, 1), Q0, Q0), ((2, 1), Q1, Q1))), ((0, 1), (4, 1)))

    def test_shown(self):
        for kind, box in boxed_kinds(243, many=60):
            for check in checks_about(span_by(kind, box)):
                points = shown(kind=kind, box=box, check=check)
                word = judged(kind, box, check)
                self.assertEqual((points[0] is None, points[1] is None), (word == "never", word == "always"))
                for point, right in zip(points, (True, False)):
                    if point is not None:
                        self.assertIs(in_box(box, point), True)
                        self.assertIs(holds_slowly(check, value_slowly(kind, point)), right)
                if kind[0] == "first" and len(box) <= 8:
                    program = program_of(kind, len(box))
                    told = tuple(point and plain_run(program, point)[-1] for point in points)
                    self.assertEqual(lets_shown(program, box, check, points), tuple(value if value is None else quot(value) for value in told))

    def test_bare_kinds(self):
        self.assertEqual(shown(BARE_KIND, (), ("is", (-5, 2))), ((), None))
        self.assertEqual(shown(BARE_KIND, (), ("above", Q0)), (None, ()))

    def test_lets_shown(self):
        point, other = ((-1, 1), Q1, Q1), (Q2, Q1, Q1)
        check = ("inside", ((-2, 1), Q0))
        self.assertEqual(lets_shown(program=SPREAD, box=BOX, check=check, thing=(point, other)), ((-2, 1), (4, 1)))
        self.assertEqual(lets_shown(SPREAD, BOX, check, (point, None)), ((-2, 1), None))
        self.assertEqual(lets_shown(SPREAD, BOX, check, (None, other)), (None, (4, 1)))
        # By runs alone: bent programs, mixes, and points between the ends.
        self.assertEqual(lets_shown(SQUARE, (UNIT,), ("is", (1, 4)), (((1, 2),), (Q1,))), ((1, 4), Q1))
        self.assertEqual(lets_shown(MIXED, (UNIT, UNIT), ("above", Q1), ((Q1, Q1), (Q0, Q0))), ((4, 1), Q1))

    def test_words(self):
        check, point, other = ("below", Q1), (Q2, Q0, Q0), (Q2, Q1, Q1)
        for thing in (None, True, 0, "ab", (), (point,), (point, other, None), [point, other]):
            self.refused(SPREAD, BOX, check, thing, "shape")
        self.refused(SPREAD, BOX, check, (None, None), "empty")
        beyond = ((3, 1), Q0, Q0)
        for wrong in tuple(entry for entry in no_points(3) if entry is not None) + (other, beyond, (Q2, Q0, (-1, 2))):
            self.refused(SPREAD, BOX, check, (wrong, other), "yes")
            self.refused(SPREAD, BOX, check, (wrong, None), "yes")
            self.refused(SPREAD, BOX, check, (wrong, wrong), "yes")
        for wrong in tuple(entry for entry in no_points(3) if entry is not None) + (point, beyond, (Q2, Q2, Q1)):
            self.refused(SPREAD, BOX, check, (point, wrong), "no")
            self.refused(SPREAD, BOX, check, (None, wrong), "no")

    def test_refused(self):
        for thing in (None, (None, None), ((Q0,) * 3, None)):
            check_refusals(self, lets_shown, {"program": MIXING, "box": BOX, "check": CHECKS[0], "thing": thing},
                           {"box": no_boxes(3), "check": NO_CHECKS})

    def test_knots(self):
        yes, no = shown(PAIRS_KIND, (((-1, 1), Q1),) * 3, ("is", (1, 2)))
        self.assertEqual(value_by(PAIRS_KIND, yes), (1, 2))
        self.assertNotEqual(value_by(PAIRS_KIND, no), (1, 2))
