import unittest
from random import Random

from sevenruns.errors import NotUsable
from sevenruns.forms import form_minus, form_plus, form_scaled, form_times
from sevenruns.kindmaking import kind_of
from sevenruns.kindsums import bare_kind, input_kind, kind_minus, kind_plus, kind_scaled, kind_times
from sevenruns.kindthings import is_kind, value_by
from tests.kind_samples import BARE_KIND, BENT_KIND, GAP_KIND, HALF, KINDS, MINUS, NO_KINDS, PAIRS_KIND, PAIRS_TREE, SQUARE_KIND
from tests.kind_samples import TIGHT_KIND, bent_form, some_form, value_slowly
from tests.samples import NO_QUOTIENTS, NOTHINGS, Q0, Q1, Q2, check_raises, check_refusals, frac, quot

X, Y = input_kind(0), input_kind(1)
CURVE = kind_times(kind_plus(X, bare_kind(Q1)), kind_minus(Y, X))
OPERATIONS = ((kind_plus, form_plus), (kind_minus, form_minus), (kind_times, form_times))
LOW = ("first", (1, 2), (-2, 1), ("sum", tuple((1 if k % 3 else 2, k) for k in range(20))))
HIGH = ("first", Q0, HALF, ("product", tuple(((k % 3, 1), k) for k in range(20, 40))))


class KindSums(unittest.TestCase):
    def test_example(self):
        self.assertEqual(kind_plus(CURVE, kind_times(X, X)), ("first", Q1, Q1, ("product", ((Q1, 0), (MINUS, 1)))))

    def test_inputs_and_quotients(self):
        for which in (0, 1, 39):
            self.assertEqual(input_kind(which=which), ("first", Q0, Q1, which))
        for quotient in (Q0, Q1, (-5, 2)):
            self.assertEqual(bare_kind(quotient=quotient), ("bare", quotient))

    def test_by_hand(self):
        total = ("first", Q0, Q1, ("sum", ((1, 0), (1, 1))))
        for found, right in (
                (kind_plus(X, Y), total), (kind_minus(X, Y), ("first", Q0, Q1, ("sum", ((1, 0), (-1, 1))))),
                (kind_minus(Y, X), ("first", Q0, MINUS, ("sum", ((1, 0), (-1, 1))))),
                (kind_times(X, Y), ("first", Q0, Q1, ("product", ((Q0, 0), (Q0, 1))))),
                (kind_plus(X, BARE_KIND), ("first", (-5, 2), Q1, 0)), (kind_times(X, BARE_KIND), ("first", Q0, (-5, 2), 0)),
                (kind_minus(BARE_KIND, X), ("first", (-5, 2), MINUS, 0)), (kind_times(BARE_KIND, ("bare", Q0)), ("bare", Q0)),
                (kind_plus(BARE_KIND, BARE_KIND), ("bare", (-5, 1))), (kind_times(X, ("bare", Q0)), ("bare", Q0)),
                (kind_times(X, X), ("bent", (1, (((0, 0), Q1),)))), (kind_minus(X, X), ("bare", Q0)), (kind_plus(X, X), ("first", Q0, Q2, 0)),
                (kind_minus(total, X), Y), (kind_plus(kind_plus(total, input_kind(2)), kind_minus(X, Y)),
                                            ("first", Q0, Q1, ("sum", ((2, 0), (1, 2))))),
                # Pairs of inputs that were a knot, and a sum times a sum.
                (kind_minus(PAIRS_KIND, kind_times(X, Y)), kind_times(input_kind(2), total)),
                (kind_times(total, kind_plus(input_kind(2), input_kind(3))),
                 ("first", Q0, Q1, ("product", ((Q0, ("sum", ((1, 0), (1, 1)))), (Q0, ("sum", ((1, 2), (1, 3)))))))),
                (kind_plus(TIGHT_KIND, kind_times(Y, input_kind(2))), PAIRS_KIND), (kind_minus(PAIRS_KIND, PAIRS_KIND), ("bare", Q0)),
                (kind_plus(PAIRS_KIND, PAIRS_KIND), ("first", Q0, Q2, PAIRS_TREE))):
            self.assertEqual(found, right)

    def test_bent_on_the_way(self):
        self.assertEqual(CURVE[0], "bent")
        self.assertEqual(kind_minus(CURVE, CURVE), ("bare", Q0))
        # What is added takes the square away, or all but a square.
        self.assertEqual(kind_minus(SQUARE_KIND, kind_times(X, kind_plus(X, Y))), ("first", Q0, MINUS, ("product", ((Q0, 0), (Q0, 1)))))
        self.assertEqual(kind_plus(kind_minus(CURVE, kind_times(X, Y)), X), ("bent", (2, (((0, 0), MINUS), ((1,), Q1)))))
        self.assertEqual(kind_times(SQUARE_KIND, ("bare", Q0)), ("bare", Q0))
        self.assertEqual(kind_times(("first", MINUS, Q1, 0), ("first", Q1, Q1, 0)), ("bent", (1, (((), MINUS), ((0, 0), Q1)))))

    def test_least_size_of_bent_kinds(self):
        far = kind_plus(SQUARE_KIND, input_kind(39))
        self.assertEqual(far, ("bent", (40, (((0, 0), Q1), ((39,), Q1)))))
        self.assertEqual(kind_minus(far, input_kind(39)), SQUARE_KIND)

    def test_letters_of_many_inputs(self):
        # One input in common: the rest of each tree stays together.
        found = kind_times(LOW, input_kind(3))
        self.assertEqual(found[0], "bent")
        self.assertEqual(found[1][0], 20)
        shifted = ("first", Q0, Q1, ("sum", tuple((1, k) for k in (3,) + tuple(range(20, 40)))))
        found = kind_plus(LOW, shifted)
        self.assertTrue(is_kind(found))
        product = kind_times(("first", Q0, Q1, ("sum", tuple((k + 1, k) for k in range(1, 30)))), X)
        again = kind_plus(product, kind_times(X, ("first", Q0, Q1, ("sum", ((1, 30), (2, 35))))))
        self.assertEqual(again[3][0], "product")
        self.assertEqual(len(again[3][1][1][1][1]), 31)
        for kind in (found, product, again):
            self.assertTrue(is_kind(kind))

    def test_forty_inputs_without_one_in_common(self):
        rng = Random(662)
        for operation, sign in ((kind_plus, "+"), (kind_minus, "-"), (kind_times, "*")):
            for one, other in ((LOW, HIGH), (HIGH, LOW), (LOW, GAP_KIND[:3] + (39,))):
                found = operation(one, other)
                self.assertTrue(is_kind(found))
                point = tuple((rng.randint(-3, 3), 1) for _ in range(40))
                first, second = value_slowly(one, point), value_slowly(other, point)
                right = first + second if sign == "+" else first - second if sign == "-" else first * second
                self.assertEqual(value_slowly(found, point), right)

    def test_as_multiplied_out(self):
        rng = Random(661)
        for _ in range(400):
            size = rng.randint(1, 5)
            one, other = (form_plus((size, ()), (size, some_form(rng, size)[1])) for _ in range(2))
            for operation, form_operation in OPERATIONS:
                found = operation(kind_of(one), kind_of(other))
                self.assertTrue(is_kind(found))
                self.assertEqual(found, kind_of(form_operation(one, other)))
            quotient = rng.choice((Q0, Q1, (-2, 3)))
            self.assertEqual(kind_scaled(kind=kind_of(one), quotient=quotient), kind_of(form_scaled(one, quotient)))

    def test_one_and_other_alike(self):
        rng = Random(663)
        for form in [some_form(rng, 4) for _ in range(40)] + [bent_form(rng, 3) for _ in range(20)]:
            kind = kind_of(form)
            self.assertEqual(kind_minus(kind, kind), ("bare", Q0))
            self.assertEqual(kind_plus(kind, kind), kind_scaled(kind, Q2))
            self.assertEqual(kind_times(kind, kind), kind_of(form_times(form, form)))

    def test_scaled(self):
        for kind in KINDS:
            self.assertEqual(kind_scaled(kind, Q0), ("bare", Q0))
            self.assertEqual(kind_scaled(kind, Q1), kind)
            self.assertEqual(kind_scaled(kind_scaled(kind, (-3, 2)), (-2, 3)), kind)
            self.assertTrue(is_kind(kind_scaled(kind, (-3, 2))))
            point = tuple((k % 5 - 2, 1) for k in range(40))
            self.assertEqual(value_by(kind_scaled(kind, (-3, 2)), point), quot(frac(value_by(kind, point)) * frac((-3, 2))))

    def test_by_position_and_by_name(self):
        for operation, _ in OPERATIONS:
            self.assertEqual(operation(other=X, one=TIGHT_KIND), operation(TIGHT_KIND, X))

    def test_refused(self):
        for operation, _ in OPERATIONS:
            for one in (X, BARE_KIND, BENT_KIND):
                check_refusals(self, operation, {"one": one, "other": X}, {"other": NOTHINGS + NO_KINDS + (Q0, 1)})
        for kind in (X, BARE_KIND, BENT_KIND):
            check_refusals(self, kind_scaled, {"kind": kind, "quotient": Q1}, {"quotient": NO_QUOTIENTS})
        check_refusals(self, bare_kind, {"quotient": Q1}, {"quotient": NO_QUOTIENTS})
        check_refusals(self, input_kind, {"which": 1}, {"which": NOTHINGS + (-1, 40, (0,), 10 ** 60)})
        check_raises(self, NotUsable, {"word": "which", "at": -1}, input_kind, 40)
