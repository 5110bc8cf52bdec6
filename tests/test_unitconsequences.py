"""What follows for kinds that are put together and for units: [75], (G8), (G13), (G14)."""

import unittest
from random import Random

from sevenruns.boxes import corners_of
from sevenruns.edits import made_anew
from sevenruns.expanding import form_of
from sevenruns.formfacts import is_first
from sevenruns.kindcalls import called
from sevenruns.kindmaking import kind_of
from sevenruns.kindsums import kind_minus, kind_plus, kind_scaled, kind_times
from sevenruns.kindthings import value_by
from sevenruns.packs import joined, pack_of
from sevenruns.quotients import minus, plus, times
from sevenruns.sites import all_sound, keeps_of, show_keep, show_site, sites_of
from sevenruns.spans import holds
from sevenruns.unitkinds import kinds_of, place_kinds
from sevenruns.unitruns import out_of_sides, run_function
from sevenruns.unitthings import function_in
from sevenruns.written import written_program
from tests.kind_samples import BENT_KIND, HAND_FORMS, PAIRS_KIND, SQUARE_KIND, TIGHT_KIND, clans_slowly, some_kind
from tests.samples import Q0, Q1, Q2, UNIT, random_number, some_points
from tests.test_edits import random_edit
from tests.unit_samples import BOTH, HAND_UNITS, MIXED, OPEN, UNITS, fun, is_open_slowly, random_units, tables, unit, units

WIDER = ((-9, 1), (9, 1))
# Each value lies where it is held: a chain over three units, with keeps.
SOUND = units(unit("a", fun("f", 2, ("sub", 0, 1), ("call", "b", "g", (2, 0)), ("call", "c", "h", (3,)), keeps=((2, ((-1, 1), Q1)), (4, ((-4, 1), (3, 1)))))),
              unit("b", ("g", (((-1, 1), Q1), UNIT), (("add", 0, 1), ("call", "c", "h", (1,)), ("add", 2, 3)), ((2, ((-1, 1), Q2)),))),
              unit("c", fun("h", 1, ("num", (1, 2)), ("sub", 0, 1), side=((-3, 1), (4, 1)))))


def linked_units(seed, many=80):
    rng = Random(seed)
    return list(HAND_UNITS) + [SOUND] + [random_units(rng) for _ in range(many)]


class KindsPutTogether(unittest.TestCase):
    def test_a_called_value_is_that_of_the_kind_at_the_values_of_the_kinds(self):
        rng = Random(751)
        hands = [(kind, (TIGHT_KIND, PAIRS_KIND, SQUARE_KIND)) for kind in (TIGHT_KIND, PAIRS_KIND, BENT_KIND, ("bare", Q2))]
        drawn = [(some_kind(rng, 3), tuple(some_kind(rng, 3) for _ in range(3))) for _ in range(120)]
        for kind, kinds in hands + drawn:
            found = called(kind, kinds)
            for _ in range(5):
                point = tuple(random_number(rng) for _ in range(3))
                self.assertEqual(value_by(found, point), value_by(kind, tuple(value_by(own, point) for own in kinds)))

    def test_sums_and_products_hang_on_the_kinds_alone(self):
        rng = Random(752)
        for _ in range(120):
            one, other = some_kind(rng, 4), some_kind(rng, 4)
            for _ in range(3):
                point = tuple(random_number(rng) for _ in range(4))
                values = (value_by(one, point), value_by(other, point))
                for function, reckoned in ((kind_plus, plus), (kind_minus, minus), (kind_times, times)):
                    self.assertEqual(value_by(function(one, other), point), reckoned(*values))
                self.assertEqual(value_by(kind_scaled(one, values[1]), point), times(*values))

    def test_whatever_way_a_form_is_written_it_has_one_kind(self):
        # x (y + z) - x y and x z + 0; two ways each, put together by kinds.
        x, y, z = (("first", Q0, Q1, which) for which in range(3))
        one = kind_minus(kind_times(x, kind_plus(y, z)), kind_times(x, y))
        self.assertEqual(one, kind_times(z, x))
        other = kind_plus(kind_times(kind_plus(x, y), kind_plus(x, z)), kind_scaled(kind_times(x, x), (-1, 1)))
        self.assertEqual(other, kind_plus(kind_times(x, kind_plus(z, y)), kind_times(y, z)))
        self.assertEqual(other, PAIRS_KIND)

    def test_clans_are_those_of_the_trees_also_of_kinds_put_together(self):
        for form, kind in HAND_FORMS:
            twice = kind_plus(kind, kind)
            if kind[0] == "first" and form[0] <= 5:
                self.assertEqual(twice, kind_scaled(kind, Q2))
                self.assertEqual(clans_of_tree(twice[3]), clans_slowly(form))


def clans_of_tree(tree):
    """The ascending list of the lots of the trees in a tree and of the unions of two or more sons of a sum or product."""
    lots, everything = clans_and_lot(tree)
    return sorted(set(lots) | {everything})


def clans_and_lot(tree):
    if isinstance(tree, int):
        return [], (tree,)
    sons = [clans_and_lot(son) for son in (tree[1] if tree[0] == "knot" else [row[1] for row in tree[1]])]
    clans = [lot for lots, _ in sons for lot in lots] + [lot for _, lot in sons]
    whole = tuple(sorted(which for _, lot in sons for which in lot))
    if tree[0] != "knot":
        for mask in range(1, 1 << len(sons)):
            clans.append(tuple(sorted(which for k, (_, lot) in enumerate(sons) if mask >> k & 1 for which in lot)))
    return clans, whole


class Units(unittest.TestCase):
    def test_kinds_are_those_of_written_out_programs(self):
        for rows in linked_units(753):
            for name, own, kind in kinds_of(rows):
                if not is_open_slowly(rows, (name, own)):
                    program = written_program(rows, name, own)
                    self.assertEqual(kind, kind_of(form_of(program)))
                    for point in some_points(program[0])[:6]:
                        self.assertEqual(run_function(rows, name, own, point), value_by(kind, point))

    def test_packs_in_whatever_sequence_and_lots(self):
        rng = Random(754)
        for rows in linked_units(755, 30):
            lots = [(row,) for row in rows] + [()]
            packs = [pack_of(lot) for lot in lots]
            while len(packs) > 1:
                one, other = (packs.pop(rng.randrange(len(packs))) for _ in range(2))
                packs.append(joined(one, other))
            self.assertEqual(packs[0], pack_of(rows))
            self.assertEqual(sites_of(packs[0][0]), sites_of(rows))

    def test_what_is_not_made_anew_has_its_kind_of_before(self):
        rng = Random(756)
        for rows in filter(None, linked_units(757, 40)):
            for _ in range(3):
                other = random_edit(rng, rows)
                anew = made_anew(rows, other)
                before = {row[:2]: row[2] for row in kinds_of(rows)}
                for name, own, kind in kinds_of(other):
                    if (name, own) not in anew:
                        self.assertIn((name, own), before)
                        self.assertEqual(kind, before[(name, own)])

    def test_words_and_what_is_shown(self):
        met = {}
        for rows in linked_units(758):
            told = [(show_site, row) for row in sites_of(rows)] + [(show_keep, row) for row in keeps_of(rows)]
            for show, row in told:
                met[row[-1]] = True
                if row[-1] in ("always", "never", "sometimes"):
                    holding, failing = show(rows, *row[:-1])
                    self.assertEqual((row[-1] == "always", row[-1] == "never"), (failing is None, holding is None))
                    self.check_shown(rows, row, holding, True)
                    self.check_shown(rows, row, failing, False)
        self.assertEqual(sorted(met), ["always", "bent", "never", "open", "sometimes"])

    def check_shown(self, rows, row, point, right):
        """The point lies in the function's box, and the kind of the place has a value there that is held, or is not."""
        if point is None:
            return
        name, own = row[:2]
        _, box, lines, keeps = function_in(rows, name, own)
        if len(row) == 4:
            place, span = row[2], dict(keeps)[row[2]]
        else:
            call = lines[row[2]]
            place, span = call[3][row[3]], function_in(rows, *call[1:3])[1][row[3]]
        self.assertTrue(all(holds(side, entry) for side, entry in zip(box, point)))
        self.assertIs(holds(span, value_by(place_kinds(rows, name, own)[place], point)), right)

    def test_always_and_never_hold_at_all_corners_and_beyond(self):
        # No matter whether what is handed elsewhere, or another keep, holds there.
        rng = Random(759)
        for rows in linked_units(760, 60):
            for name, own, place, word in keeps_of(rows):
                _, box, _, keeps = function_in(rows, name, own)
                if word in ("always", "never"):
                    kind, span = place_kinds(rows, name, own)[place], dict(keeps)[place]
                    points = list(corners_of(box)) + [tuple(between(rng, side) for side in box) for _ in range(5)]
                    for point in points:
                        self.assertIs(holds(span, value_by(kind, point)), word == "always")

    def test_sound_units_hand_nothing_out_of_sides(self):
        rng = Random(761)
        drawn = [widened(rows) for rows in linked_units(762, 120)]
        sound = [rows for rows in [SOUND, BOTH] + linked_units(763, 120) + drawn if rows and all_sound(rows)]
        self.assertGreater(len(sound), 20)
        for rows in sound:
            for (name, own), function in tables(rows).items():
                for point in list(corners_of(function[1]))[:16] + [tuple(between(rng, side) for side in function[1]) for _ in range(6)]:
                    self.assertEqual(out_of_sides(rows, name, own, point), ())

    def test_hand_units(self):
        self.assertIs(all_sound(SOUND), True)
        self.assertEqual([all_sound(rows) for rows in (UNITS, OPEN, MIXED)], [False, False, False])


def between(rng, side):
    """A quotient of the side."""
    weight = rng.choice((Q0, (1, 2), (1, 3), Q1))
    return plus(side[0], times(weight, minus(side[1], side[0])))


def widened(rows):
    """The units with small sides and no keeps where nothing calls a function, and wide sides for what is called."""
    callees = {line[1:3] for function in tables(rows).values() for line in function[2] if line[0] == "call"}
    return tuple((name, tuple((own, ((WIDER if (name, own) in callees else UNIT),) * len(box), lines, ()) for own, box, lines, _ in functions))
                 for name, functions in rows)


class FirstDegree(unittest.TestCase):
    def test_bent_functions_are_told_as_bent(self):
        for rows in linked_units(764, 60):
            for name, own, kind in kinds_of(rows):
                if kind is not None:
                    self.assertEqual(kind[0] == "bent", not is_first(form_of(written_program(rows, name, own))))
