import unittest
from itertools import combinations
from random import Random

from sevenruns.kindthings import lot_of
from sevenruns.letters import letters_of
from tests.kind_samples import BARE_KIND, BENT_KIND, GAP_KIND, KINDS, NESTED_TREE, PAIRS_KIND, PATH_TREE, SHIFTED, SQUARE_KIND
from tests.samples import NOTHINGS, Q0, Q1, check_refusals

GATE = ("first", Q0, Q1, ("product", ((Q0, 0), (Q0, ("sum", ((1, 1), (1, 2), (1, 3)))))))
NESTED = ("first", Q0, Q1, NESTED_TREE)
NO_LOTS = tuple(thing for thing in NOTHINGS if thing != ()) + (0, (1, 0), (0, 0), (40,), (-1,), (True,), [0], (Q0,), (0, 40))


class Letters(unittest.TestCase):
    def test_example(self):
        self.assertEqual((letters_of(GATE, (2, 9)), letters_of(GATE, ())), (((0,), (1, 3), (2,)), ((0, 1, 2, 3),)))

    def test_by_hand(self):
        # Of a sum or product what has none is together, wherever it stands; of a knot each son is by itself.
        for kind, lot, letters in ((GATE, (0,), ((0,), (1, 2, 3))), (GATE, (0, 1, 2, 3), ((0,), (1,), (2,), (3,))),
                                   (GATE, (1, 3), ((0,), (1,), (2,), (3,))), (GATE, (5, 39), ((0, 1, 2, 3),)),
                                   (PAIRS_KIND, (1,), ((0,), (1,), (2,))), (PAIRS_KIND, (3,), ((0, 1, 2),)),
                                   (("first", Q0, Q1, PATH_TREE), (0,), ((0,), (1,), (2,), (3,))),
                                   (("first", Q0, Q1, SHIFTED), (0,), ((0,), (1,), (2,))), (("first", Q0, Q1, SHIFTED), (2,), ((0, 1), (2,))),
                                   (("first", Q0, Q1, ("sum", tuple((1, k) for k in range(6)))), (1, 4), ((0, 2, 3, 5), (1,), (4,))),
                                   (("first", Q0, Q1, ("product", ((Q0, ("sum", ((1, 0), (1, 3)))), (Q1, 1), (Q0, 2)))), (1,), ((0, 2, 3), (1,))),
                                   (("first", Q0, Q1, ("product", ((Q0, ("sum", ((1, 0), (1, 3)))), (Q1, 1), (Q0, 2)))), (3,), ((0,), (1, 2), (3,))),
                                   (NESTED, (4,), ((0, 1, 2, 3), (4,), (5, 6))), (NESTED, (3,), ((0, 1, 2), (3,), (4,), (5, 6))),
                                   (NESTED, (1, 6), ((0,), (1,), (2,), (3,), (4,), (5,), (6,))), (NESTED, (7,), ((0, 1, 2, 3, 4, 5, 6),)),
                                   (GAP_KIND, (39,), ((7,), (20,), (39,))), (GAP_KIND, (7,), ((7,), (20, 39))),
                                   (("first", Q0, Q1, 3), (3,), ((3,),)), (("first", Q0, Q1, 3), (), ((3,),))):
            self.assertEqual(letters_of(kind=kind, lot=lot), letters)

    def test_bare_and_bent(self):
        for lot in ((), (0,), (1,), (0, 1, 39)):
            self.assertEqual(letters_of(BARE_KIND, lot), ())
            self.assertEqual(letters_of(BENT_KIND, lot), ((0,), (1,)))
            self.assertEqual(letters_of(("bent", (5, (((0, 0), Q1), ((2, 4), Q1)))), lot), ((0,), (2,), (4,)))

    def test_each_input_is_in_one_letter(self):
        rng = Random(261)
        for kind in KINDS:
            inputs = lot_of(kind)
            for _ in range(12):
                lot = tuple(sorted(rng.sample(range(40), rng.randint(0, 5))))
                letters = letters_of(kind, lot)
                self.assertEqual(sorted(which for letter in letters for which in letter), list(inputs))
                self.assertEqual(list(letters), sorted(letters))
                self.assertTrue(all(list(letter) == sorted(letter) for letter in letters))
                for which in lot:
                    self.assertTrue(which not in inputs or (which,) in letters)
            for pair in list(combinations(inputs, 2))[:6]:
                self.assertIn(pair[:1], letters_of(kind, pair))

    def test_refused(self):
        for kind in (GATE, BARE_KIND, BENT_KIND, SQUARE_KIND):
            check_refusals(self, letters_of, {"kind": kind, "lot": ()}, {"lot": NO_LOTS})
