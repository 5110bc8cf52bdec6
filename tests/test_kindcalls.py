import unittest
from random import Random

from sevenruns.formruns import with_number
from sevenruns.forms import form_plus
from sevenruns.grafting import grafted
from sevenruns.kindcalls import called, fixed_kind, renamed_kind
from sevenruns.kindmaking import kind_of
from sevenruns.kindsums import bare_kind, input_kind, kind_minus, kind_plus, kind_times
from sevenruns.kindthings import is_kind, lot_of
from sevenruns.letters import letters_of
from tests.kind_samples import BARE_KIND, BENT_KIND, GAP_KIND, HALF, KINDS, MINUS, NO_KINDS, PAIRS_KIND, SQUARE_KIND, TIGHT_KIND
from tests.kind_samples import cycle_form, random_structured, renamed_slowly, replaced_slowly, some_form, value_slowly
from tests.samples import NO_QUOTIENTS, NOTHINGS, Q0, Q1, Q2, check_refusals, quot
from tests.test_kindsums import CURVE, HIGH, LOW

X, Y, Z = input_kind(0), input_kind(1), input_kind(2)
GATE = ("first", Q0, Q1, ("product", ((Q0, 0), (Q0, ("sum", ((1, 1), (1, 2), (1, 3)))))))
TWIST = ("first", Q0, Q1, ("knot", (0, 1, 2), (((0,), 1), ((0, 2), -1), ((1, 2), 1))))
DIFF = ("first", Q0, Q1, ("sum", ((1, 0), (-1, 1))))


class Called(unittest.TestCase):
    def test_examples(self):
        self.assertEqual(called(CURVE, (bare_kind(Q2), Y)), ("first", (-6, 1), (3, 1), 1))
        self.assertEqual(called(GATE, (X, X, X, X)), ("bent", (1, (((0, 0), (3, 1)),))))

    def test_knots_whose_places_get_numbers(self):
        # x0 - x0 x2 + x1 x2.
        for kinds, found in (((bare_kind(Q1), X, Y), ("first", Q1, Q1, ("product", ((MINUS, 0), (Q0, 1))))),
                             ((X, bare_kind(Q0), Y), ("first", Q0, MINUS, ("product", ((Q0, 0), (MINUS, 1))))),
                             ((X, Y, bare_kind(Q0)), X), ((X, Y, bare_kind(Q1)), Y), ((bare_kind(Q0), X, bare_kind(Q0)), ("bare", Q0)),
                             ((X, Y, bare_kind(HALF)), ("first", Q0, HALF, ("sum", ((1, 0), (1, 1))))),
                             ((bare_kind(Q1), bare_kind(Q1), X), ("bare", Q1)), ((bare_kind(Q2),) * 3, ("bare", Q2)),
                             # With one input in all of them.
                             ((X, X, X), X), ((X, X, Y), X), ((X, Y, X), ("bent", (2, (((0,), Q1), ((0, 0), MINUS), ((0, 1), Q1))))),
                             ((Y, kind_plus(X, Y), bare_kind(Q2)), ("first", Q0, Q1, ("sum", ((2, 0), (1, 1)))))):
            self.assertEqual(called(kind=TWIST, kinds=kinds), found)

    def test_inputs_that_fall_out(self):
        self.assertEqual(called(DIFF, (PAIRS_KIND, PAIRS_KIND)), ("bare", Q0))
        self.assertEqual(called(DIFF, (kind_plus(X, Y), Y)), X)
        self.assertEqual(called(SQUARE_KIND, (bare_kind((-3, 2)),)), ("bare", (9, 4)))

    def test_bent_on_the_way_and_in_the_end_no_longer(self):
        square = kind_times(X, X)
        self.assertEqual(called(DIFF, (kind_plus(square, Y), square)), Y)
        self.assertEqual(called(DIFF, (CURVE, kind_minus(Y, square))), ("first", Q0, Q1, ("product", ((Q0, 0), (MINUS, 1)))))
        self.assertEqual(called(BENT_KIND, (Y, bare_kind(Q1))), ("first", Q1, Q2, 1))

    def test_bent_kinds_with_letters_of_many_inputs(self):
        product = ("first", Q0, Q1, ("product", ((Q0, 10), (Q0, 11))))
        self.assertEqual(called(SQUARE_KIND, (product,)), ("bent", (12, (((10, 10, 11, 11), Q1),))))
        found = called(CURVE, (("first", Q0, Q1, ("sum", tuple((1, k) for k in range(1, 39)))), X))
        self.assertEqual((found[0], found[1][0]), ("bent", 39))
        self.assertEqual(len(found[1][1]), 38 * 39 // 2 + 38 + 38 + 1)

    def test_what_is_left_aside(self):
        self.assertEqual(called(Z, (X, BENT_KIND, CURVE, X)), CURVE)
        self.assertEqual(called(BARE_KIND, ()), BARE_KIND)
        self.assertEqual(called(BARE_KIND, (CURVE, X)), BARE_KIND)
        # Inputs in common with an entry that kind does not hold are not in common.
        many = ("first", Q0, Q1, ("sum", tuple((1, k) for k in range(40))))
        self.assertEqual(called(("first", Q0, Q1, 1), (many, many, many, SQUARE_KIND)), many)
        self.assertEqual(called(("first", Q0, Q1, ("sum", ((1, 0), (1, 2)))), (LOW, many, HIGH)), kind_plus(LOW, HIGH))

    def test_as_grafted(self):
        rng = Random(671)
        for kind in KINDS:
            if kind[0] != "bent":
                kinds = tuple(("first", (k % 3, 1), (1, 1 + k % 2), which) for k, which in enumerate(rng.sample(range(40), 40)))
                self.assertEqual(called(kind, kinds), grafted(kind, kinds))

    def test_as_multiplied_out(self):
        rng = Random(672)
        for _ in range(400):
            size, inner = rng.randint(1, 4), rng.randint(1, 4)
            form = form_plus((size, ()), (size, some_form(rng, size)[1]))
            forms = [(inner, some_form(rng, inner)[1]) for _ in range(size)]
            found = called(kind_of(form), tuple(kind_of(entry) for entry in forms))
            self.assertTrue(is_kind(found))
            self.assertEqual(found, kind_of(replaced_slowly(form, inner, forms)))

    def test_forty_inputs_of_kind_in_few_letters(self):
        forty = ("first", Q1, HALF, ("sum", tuple((k % 5 + 1, k) for k in range(40))))
        kinds = tuple((X, Y, BARE_KIND, kind_times(X, Y))[k % 4] for k in range(40))
        found = called(forty, kinds)
        for x in range(-2, 3):
            for y in range(-2, 3):
                point = ((x, 1), (y, 1))
                inner = tuple(quot(value_slowly(kind, point)) for kind in kinds)
                self.assertEqual(value_slowly(found, point), value_slowly(forty, inner))

    def test_refused(self):
        wrong = {"kinds": NOTHINGS + ((), (X,), [X, Y]) + tuple((X, thing) for thing in NO_KINDS) + ((X, X, None),)}
        for kind in (DIFF, CURVE):
            check_refusals(self, called, {"kind": kind, "kinds": (X, X)}, wrong)
        check_refusals(self, called, {"kind": BARE_KIND, "kinds": ()}, {"kinds": NOTHINGS + ([],)})


class Renamed(unittest.TestCase):
    def test_by_hand(self):
        for kind, places, found in ((DIFF, (1, 0), ("first", Q0, MINUS, ("sum", ((1, 0), (-1, 1))))), (DIFF, (5, 39), DIFF[:3] + (("sum", ((1, 5), (-1, 39))),)),
                                    (TWIST, (2, 0, 1), ("first", Q0, Q1, ("knot", (0, 1, 2), (((0, 1), 1), ((1, 2), -1), ((2,), 1))))),
                                    (SQUARE_KIND, (3,), ("bent", (4, (((3, 3), Q1),)))), (BENT_KIND, (1, 0), ("bent", (2, (((), Q1), ((0, 0, 1), Q2))))),
                                    (BARE_KIND, (), BARE_KIND), (BARE_KIND, (7, 3), BARE_KIND), (Y, (9, 8, 7), ("first", Q0, Q1, 8)),
                                    (TIGHT_KIND, (2, 1, 0), ("first", Q0, Q1, ("product", ((Q0, ("sum", ((1, 0), (1, 1)))), (Q0, 2)))))):
            self.assertEqual(renamed_kind(kind=kind, places=places), found)
            self.assertTrue(is_kind(found))

    def test_back_again(self):
        rng = Random(673)
        for kind in KINDS:
            places = rng.sample(range(40), 40)
            back = [places.index(k) for k in range(40)]
            moved = renamed_kind(kind, tuple(places))
            self.assertTrue(is_kind(moved))
            self.assertEqual(lot_of(moved), tuple(sorted(places[which] for which in lot_of(kind))))
            self.assertEqual(renamed_kind(moved, tuple(back)), kind)

    def test_as_forms(self):
        rng = Random(674)
        for _ in range(100):
            form = some_form(rng, 5)
            places = tuple(rng.sample(range(7), form[0]))
            self.assertEqual(renamed_kind(kind_of(form), places), kind_of(renamed_slowly(form, 7, places)))

    def test_refused(self):
        wrong = NOTHINGS + ((), (0,), [0, 1], (0, 0), (0, 40), (0, -1), (0, True), (True, 0), (0, None), (0, 1, 1), (0, 1, 40), ((0,), 1))
        for kind in (DIFF, CURVE):
            check_refusals(self, renamed_kind, {"kind": kind, "places": (0, 1)}, {"places": wrong})
        check_refusals(self, renamed_kind, {"kind": BARE_KIND, "places": ()}, {"places": ([], (0, 0), (40,), None)})


class Fixed(unittest.TestCase):
    def test_example(self):
        self.assertEqual(fixed_kind(TWIST, 0, Q1), ("first", Q1, Q1, ("product", ((MINUS, 1), (Q0, 2)))))

    def test_by_hand(self):
        for kind, which, quotient, found in ((X, 0, HALF, ("bare", HALF)), (TIGHT_KIND, 0, Q0, ("bare", Q0)), (TIGHT_KIND, 1, Q0, ("first", Q0, Q1, ("product", ((Q0, 0), (Q0, 2))))),
                                             (TIGHT_KIND, 2, Q2, ("first", Q0, Q1, ("product", ((Q0, 0), (Q2, 1))))),
                                             (BENT_KIND, 1, Q2, ("first", Q1, (8, 1), 0)), (BENT_KIND, 0, Q0, ("bare", Q1)), (BENT_KIND, 0, Q1, ("bent", (2, (((), Q1), ((1, 1), Q2))))),
                                             (PAIRS_KIND, 2, Q0, ("first", Q0, Q1, ("product", ((Q0, 0), (Q0, 1)))))):
            self.assertEqual(fixed_kind(kind=kind, which=which, quotient=quotient), found)

    def test_an_input_that_does_not_stand_in_the_kind(self):
        for kind in KINDS:
            for which in (0, 6, 9, 38, 39):
                if which not in lot_of(kind):
                    self.assertEqual(fixed_kind(kind, which, Q2), kind)

    def test_as_forms(self):
        rng = Random(675)
        for _ in range(300):
            form = some_form(rng, 6)
            which, quotient = rng.randrange(form[0]), rng.choice((Q0, Q1, MINUS, (3, 2)))
            found = fixed_kind(kind_of(form), which, quotient)
            self.assertTrue(is_kind(found))
            self.assertEqual(found, kind_of(with_number(form, which, quotient)))

    def test_many_inputs_in_few_letters(self):
        rng = Random(676)
        knot = kind_of(cycle_form(5))[3]
        nested = ("first", Q1, Q2, ("sum", ((1, ("product", ((Q1, ("sum", ((1, knot),) + tuple((k, k) for k in range(5, 25)))), (Q0, 25), (Q1, 26)))),
                                            (-2, 27), (3, ("product", tuple((Q1, k) for k in range(28, 40)))))))
        self.assertTrue(is_kind(nested))
        for kind, which in ((nested, 3), (nested, 26), (nested, 7), (nested, 27), (LOW, 5), (HIGH, 39), (GAP_KIND, 20)):
            self.assertLessEqual(len(letters_of(kind, (which,))), 8)
            for quotient in (Q0, MINUS, HALF):
                found = fixed_kind(kind, which, quotient)
                self.assertTrue(is_kind(found))
                self.assertNotIn(which, lot_of(found))
                for _ in range(3):
                    point = [(rng.randint(-2, 2), 1) for _ in range(40)]
                    point[which] = quotient
                    self.assertEqual(value_slowly(found, point), value_slowly(kind, point))

    def test_one_after_the_other(self):
        rng = Random(677)
        for _ in range(60):
            form = random_structured(rng, most=5)
            kind, point = kind_of(form), tuple((rng.randint(-2, 3), 1) for _ in range(form[0]))
            for which in rng.sample(range(form[0]), form[0]):
                kind = fixed_kind(kind, which, point[which])
            self.assertEqual(kind, ("bare", quot(value_slowly(kind_of(form), point))))

    def test_refused(self):
        for kind in (TWIST, BARE_KIND, BENT_KIND):
            check_refusals(self, fixed_kind, {"kind": kind, "which": 0, "quotient": Q1},
                           {"which": NOTHINGS + (-1, 40, (0,)), "quotient": NO_QUOTIENTS})
