import unittest
from random import Random

from sevenruns.packs import is_pack, joined, pack_of
from sevenruns.unitkinds import kinds_of
from tests.samples import NOTHINGS, Q0, Q1, check_refusals
from tests.unit_samples import BOTH, HAND_UNITS, LEVEL, MISFITS, MIXED, OPEN, POOL, PUMP, RING, SELF, UNITS, VALVE, fun, random_units, unit, units


class Packs(unittest.TestCase):
    def test_made(self):
        for rows in HAND_UNITS:
            self.assertEqual(pack_of(units=rows), (rows, kinds_of(rows)))
            self.assertIs(is_pack(thing=pack_of(rows)), True)
        self.assertEqual(pack_of(()), ((), ()))

    def test_is_pack(self):
        kinds = kinds_of(UNITS)
        other = ("tank", "level", ("first", Q0, Q1, 1))
        for thing in NOTHINGS + ((), (UNITS,), (UNITS, kinds, ()), [UNITS, kinds], (UNITS, list(kinds)), (list(UNITS), kinds), (UNITS, ()),
                                 (UNITS, kinds[:1]), (UNITS, kinds[::-1]), (UNITS, (other, kinds[1])), (UNITS, (kinds[0], kinds[1], kinds[1])),
                                 (UNITS, (list(kinds[0]), kinds[1])), (UNITS, (kinds[0] + (None,), kinds[1])), (UNITS[::-1], kinds), ((), None),
                                 (SELF, ()), (RING, ()), (MISFITS, ()), ((LEVEL,), (("tank", "level", "None"),)), ((LEVEL,), (("tank", "level", False),)),
                                 ((), [])):
            self.assertIs(is_pack(thing), False, thing)
        self.assertIs(is_pack(((LEVEL,), (("tank", "level", None),))), True)

    def test_true_is_not_1(self):
        kinds = kinds_of(UNITS)
        for kind in (("first", (0, True), Q1, 0), ("first", Q0, (True, 1), 0), ("first", Q0, Q1, False), ("first", (False, 1), Q1, 0)):
            self.assertEqual(kind, kinds[0][2])
            self.assertIs(is_pack((UNITS, (("tank", "level", kind), kinds[1]))), False)

    def test_joined(self):
        for one, other in (((LEVEL,), (VALVE,)), ((VALVE,), (LEVEL,)), ((POOL,), (PUMP,)), (BOTH, UNITS), (OPEN, MIXED), (UNITS, ()), ((), UNITS), ((), ())):
            self.assertEqual(joined(one=pack_of(one), other=pack_of(other)), pack_of(units(*one, *other)))

    def test_joined_in_whatever_sequence_and_lots(self):
        rng = Random(701)
        for _ in range(40):
            rows = random_units(rng)
            mixed = rng.sample(rows, len(rows))
            found, beside = pack_of(()), pack_of(())
            for row in mixed:
                found = joined(found, pack_of((row,)))
            cut = rng.randint(0, len(rows))
            for row in mixed[:cut]:
                beside = joined(pack_of((row,)), beside)
            self.assertEqual(found, pack_of(rows))
            self.assertEqual(joined(beside, pack_of(units(*mixed[cut:]))), pack_of(rows))

    def test_refused(self):
        mine = units(unit("tank", fun("other", 1, ("add", 0, 0))))
        wrong = NOTHINGS + (UNITS, (VALVE,), ((VALVE,), ()), [(VALVE,), kinds_of((VALVE,))], (SELF, ()), (MISFITS, ()), pack_of((LEVEL,)), pack_of(UNITS), pack_of(mine))
        check_refusals(self, joined, {"one": pack_of((LEVEL,)), "other": pack_of((VALVE,))}, {"other": wrong})
