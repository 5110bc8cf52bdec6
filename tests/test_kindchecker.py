import unittest

from sevenruns.errors import InvalidPaper
from sevenruns.kindchecker import lets_kind
from sevenruns.kindthings import is_kind
from tests.kind_samples import HAND, KINDS, NESTED_TREE, NO_KINDS, PAIRS_TREE, PATH_TREE, TIGHT_TREE, inputs_slowly
from tests.samples import BENT, NO_QUOTIENTS, Q0, Q1, Q2, check_raises


def first(tree):
    return ("first", Q0, Q1, tree)


def trees_slowly(tree):
    if isinstance(tree, int):
        return 1
    return 1 + sum(trees_slowly(son) for son in (tree[1] if tree[0] == "knot" else [row[1] for row in tree[1]]))


class KindChecker(unittest.TestCase):
    def refused(self, thing, word, at=-1):
        self.assertIs(is_kind(thing), False)
        check_raises(self, InvalidPaper, {"word": word, "at": at}, lets_kind, thing)

    def refused_tree(self, tree, word, at=0):
        self.refused(first(tree), word, at)

    def test_example(self):
        self.refused(("first", Q0, Q1, ("sum", ((1, 0), (1, ("sum", ((1, 1), (1, 2))))))), "seam", 0)

    def test_how_many_trees(self):
        for kind in KINDS:
            self.assertEqual(lets_kind(thing=kind), trees_slowly(kind[3]) if kind[0] == "first" else 0)
        self.assertEqual(lets_kind(first(TIGHT_TREE)), 5)
        self.assertEqual(lets_kind(first(7)), 1)
        self.assertEqual(lets_kind(first(NESTED_TREE)), 11)
        self.assertEqual(len(inputs_slowly(NESTED_TREE)), 7)
        for _, kind in HAND:
            self.assertIs(is_kind(kind), True)

    def test_shape(self):
        for thing in (None, True, 0, "", "bare", (), [], ["bare", Q0], ("bare",), ("bare", Q0, Q0), ("first", Q0, Q1), ("bent",),
                      ("first", Q0, Q1, 0, 0), ("bent", BENT, Q0), ("other", Q0), (None, Q0), (["bare"], Q0), (0, Q0), (True, Q0),
                      (("bare",), Q0), ("sum", ((1, 0), (1, 1)))):
            self.refused(thing, "shape")

    def test_number(self):
        for number in NO_QUOTIENTS:
            self.refused(("bare", number), "number")

    def test_form(self):
        for form in (None, True, 0, (), "x", [1, ()], (2, ()), (1, (((0,), Q1),)), (2, (((0, 1), Q1),)), (3, BENT[1]),
                     (2, (((0, 0), Q1),)), (1, (((0, 0), (2, 4)),)), (1, (((0, 0), Q0),)), (2, (((1, 0, 0), Q1),))):
            self.refused(("bent", form), "form")
        self.assertEqual(lets_kind(("bent", (1, (((0, 0), Q1),)))), 0)

    def test_base_ahead_of_scale_ahead_of_tree(self):
        for number in NO_QUOTIENTS:
            self.refused(("first", number, Q1, 0), "base")
            self.refused(("first", number, Q0, None), "base")
            self.refused(("first", Q0, number, 0), "scale")
            self.refused(("first", Q0, number, None), "scale")
        self.refused(("first", Q0, Q0, 0), "scale")
        self.refused(("first", Q0, Q0, None), "scale")

    def test_trees(self):
        for tree in (None, True, False, -1, 40, "x", "in", (), [], ["sum", ((1, 0), (1, 1))], ("sum",), ("product",), ("knot", (0, 1, 2)),
                     ("sum", ((1, 0), (1, 1)), ()), ("other", ((1, 0), (1, 1))), (0, 1), ("in", 0), Q0, (None, ()), (["sum"], ())):
            self.refused_tree(tree, "tree")
            self.refused_tree(("sum", ((1, tree), (1, 5))), "tree", 1)
            self.refused_tree(("product", ((Q0, 0), (Q1, tree))), "tree", 2)
            self.refused_tree(("knot", (0, 1, tree), PAIRS_TREE[2]), "tree", 3)
        # Each tree is numbered ahead of its sons, the sons in sequence.
        self.refused_tree(("knot", (TIGHT_TREE, PAIRS_TREE, None), PAIRS_TREE[2]), "tree", 10)
        self.refused_tree(("knot", (TIGHT_TREE, None, None), PAIRS_TREE[2]), "tree", 6)

    def test_rows_of_sums(self):
        for rows in (None, (), ((1, 0),), [(1, 0), (1, 1)], ((1, 0), (1,)), ((1, 0), [1, 1]), ((1, 0), (1, 1, 2)), ((0, 0), (1, 1)),
                     ((1, 0), (0, 1)), ((-1, 0), (1, 1)), ((2, 0), (4, 1)), ((2, 0), (2, 1)), ((True, 0), (1, 1)), ((1, 0), (Q1, 1)),
                     ((1, 0), (None, 1)), ((1, 0), 1), ((6, 0), (10, 1), (-2, 2)), ((1, 0), "ab"), ((-1, 0), (-1, 1))):
            self.refused_tree(("sum", rows), "rows")
            self.refused_tree(("product", ((Q0, 5), (Q0, ("sum", rows)))), "rows", 2)
        self.assertEqual(lets_kind(first(("sum", ((6, 0), (10, 1), (-15, 2))))), 4)

    def test_rows_of_products(self):
        for rows in (None, (), ((Q0, 0),), [(Q0, 0), (Q0, 1)], ((Q0, 0), (Q0,)), ((Q0, 0), (0, 1)), ((Q0, 0), ((2, 4), 1)), ((1, 0), (1, 1)),
                     ((Q0, 0), 1), (((1, 0), 0), (Q0, 1)), ((Q0, 0), (None, 1)), ((Q0, 0), (Q0, 1, 2)), (((True, 1), 0), (Q0, 1))):
            self.refused_tree(("product", rows), "rows")
            self.refused_tree(("sum", ((1, 5), (1, ("product", rows)))), "rows", 2)

    def test_sons_and_terms_of_knots(self):
        terms = PAIRS_TREE[2]
        for sons in (None, (), (0, 1), [0, 1, 2], 3):
            self.refused_tree(("knot", sons, terms), "rows")
        for tree in (("knot", (0, 1), (((0, 1), 1),)), ("knot", (0, 1), (((0,), 1), ((1,), 2))), ("knot", (0,), (((0,), 1),)), ("knot", (), ())):
            self.refused_tree(tree, "rows")
        for wrong in (None, (), list(terms), terms[::-1], terms + terms[2:], (terms[1], terms[0], terms[2]), terms[:1] + terms, terms[:2] + (((1, 2), 0),), (((0, 1), 2), ((0, 2), 2), ((1, 2), 2)),
                      (((0, 1), -1),) + terms[1:], ((), 1) + terms, (((), 1),) + terms, terms + (((1, 3), 1),), terms[:2] + (((2, 1), 1),),
                      terms[:2] + (((1, 1), 1),), terms[:2] + (((1, 2), True),), terms[:2] + (((1, 2), Q1),), terms[:2] + (((1, 2),),),
                      terms[:2] + ([(1, 2), 1],), terms[:2] + (([1, 2], 1),), (((0, True), 1),) + terms[1:], terms[:2] + ("ab",)):
            self.refused_tree(("knot", (0, 1, 2), wrong), "rows")
            self.refused_tree(("sum", ((1, ("knot", (0, 1, 2), wrong)), (1, 3))), "rows", 1)

    def test_order(self):
        for tree in (("sum", ((1, 1), (1, 0))), ("sum", ((1, 0), (1, 0))), ("product", ((Q0, 1), (Q0, 0))), ("product", ((Q0, 3), (Q1, 3))),
                     ("knot", (0, 2, 1), PAIRS_TREE[2]), ("knot", (0, 1, 1), PAIRS_TREE[2]),
                     ("sum", ((1, 1), (1, TIGHT_TREE))), ("sum", ((1, TIGHT_TREE), (1, 2))),
                     ("sum", ((1, 3), (1, ("product", ((Q0, 2), (Q0, 4))))))):
            self.refused_tree(tree, "order")
        self.refused_tree(("product", ((Q0, 0), (Q0, ("sum", ((1, 2), (1, 1)))))), "order", 2)
        self.assertEqual(lets_kind(first(("sum", ((1, ("product", ((Q0, 0), (Q0, 5)))), (1, 2))))), 5)

    def test_seam(self):
        within = ("sum", ((1, 1), (1, 2)))
        self.refused_tree(("sum", ((1, 0), (-3, within))), "seam")
        self.refused_tree(("sum", ((1, within), (1, 3))), "seam")
        factors = ("product", ((Q1, 1), (Q0, 2)))
        self.refused_tree(("product", ((Q0, 0), (Q0, factors))), "seam")
        self.refused_tree(("product", ((Q0, factors), (Q0, 3))), "seam")
        self.refused_tree(("sum", ((1, ("product", ((Q1, 0), (Q0, factors)))), (1, 3))), "seam", 1)
        self.assertEqual(lets_kind(first(("product", ((Q0, 0), (Q1, factors))))), 5)
        self.assertEqual(lets_kind(first(("sum", ((1, 0), (1, factors))))), 5)
        self.assertEqual(lets_kind(first(("product", ((Q0, 0), (Q0, within))))), 5)
        # A knot in a knot is let.
        self.assertEqual(lets_kind(first(("knot", (PAIRS_TREE, 3, 4), PAIRS_TREE[2]))), 7)

    def test_clan(self):
        for terms in ((((0, 1), 1),), (((0,), 1), ((1,), 1), ((2,), 1)), (((0, 1, 2), 1),), (((0, 1), 1), ((0, 2), 1)),
                      (((0, 1), 1), ((1, 2), 1)), (((0,), 1), ((1, 2), 1)), (((0,), 1), ((0, 1), 1), ((1,), 1), ((2,), 1)),
                      (((0, 1), 1), ((0, 1, 2), 1)), (((0,), 1), ((1,), 1))):
            self.refused_tree(("knot", (0, 1, 2), terms), "clan")
            self.refused_tree(("product", ((Q0, ("knot", (0, 1, 2), terms)), (Q0, 3))), "clan", 1)
        # A clan of two places, of three, and one that is told by numbers, not by which terms there are.
        self.refused_tree(("knot", (0, 1, 2, 3), (((0, 1), 1), ((0, 2), 1), ((1, 3), 1), ((2, 3), 1))), "clan")
        self.refused_tree(("knot", (0, 1, 2, 3), (((0, 1), 1), ((0, 2), 1), ((1, 2), 1), ((3,), 1))), "clan")
        self.refused_tree(("knot", (0, 1, 2), (((0, 1), 2), ((0, 2), 4), ((1,), 3), ((2,), 6))), "clan")
        self.assertEqual(lets_kind(first(("knot", (0, 1, 2), (((0, 1), 2), ((0, 2), 4), ((1,), 3), ((2,), 7))))), 4)
        # Not all places, though there is no clan between the others.
        self.refused_tree(("knot", (0, 1, 2, 3), PAIRS_TREE[2]), "clan")

    def test_knots_beyond_the_limit(self):
        for many in (9, 12, 16):
            sons = tuple(range(many))
            path = tuple(((k, k + 1), 1) for k in range(many - 1))
            every = tuple(((j, k), 1) for j in range(many) for k in range(j + 1, many))
            for terms in (path, every):
                self.assertEqual(lets_kind(first(("knot", sons, terms))), many + 1)
            self.refused_tree(("knot", sons, tuple(((k,), 1) for k in sons)), "clan")
            # Behind the last but two come two places that are alike.
            self.refused_tree(("knot", sons, path[:-1] + (((many - 3, many - 1), 1),)), "clan")

    def test_the_first_of_two_faults(self):
        bad_rows, twice = ("sum", ((2, 0), (2, 1))), ("sum", ((1, 0), (1, 0)))
        loose = ("knot", (0, 1, 2), (((0, 1, 2), 1),))
        # The rows of a node come ahead of its sons, its sons ahead of what they are together.
        self.refused_tree(("sum", ((2, None), (2, 1))), "rows")
        self.refused_tree(("sum", ((1, 1), (1, bad_rows))), "rows", 2)
        self.refused_tree(("sum", ((1, 1), (1, None))), "tree", 2)
        self.refused_tree(("product", ((Q0, twice), (Q0, twice))), "order", 1)
        self.refused_tree(("product", ((Q0, 5), (Q0, twice))), "order", 2)
        self.refused_tree(("product", ((Q0, loose), (Q0, bad_rows))), "clan", 1)
        self.refused_tree(("product", ((Q0, bad_rows), (Q0, loose))), "rows", 1)
        # The order ahead of a seam and of a clan.
        self.refused_tree(("sum", ((1, 3), (1, ("sum", ((1, 1), (1, 2)))))), "order")
        self.refused_tree(("knot", (2, 1, 0), loose[2]), "order")
        self.refused_tree(("sum", ((1, ("sum", ((1, 0), (1, 1)))), (1, loose))), "clan", 4)
        self.refused_tree(("sum", ((1, PATH_TREE), (1, ("sum", ((1, 4), (1, 5)))))), "seam")

    def test_any_value(self):
        deep = ()
        for _ in range(25):
            deep = (deep, [deep])
            if len(repr(deep)) > 4000:
                break
        for thing in NO_KINDS + (deep, ("first", deep, deep, deep), ("first", Q0, Q1, ("sum", ((1, deep), (1, deep)))), ("bent", deep),
                                 (10 ** 60, Q2), ("first", Q0, Q1, ("knot", deep, deep))):
            self.assertIs(is_kind(thing), False)
            with self.assertRaises(InvalidPaper):
                lets_kind(thing)
