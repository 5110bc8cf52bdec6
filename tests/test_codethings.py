import unittest

from sevenruns.codethings import is_code, lets_code
from sevenruns.errors import InvalidPaper
from tests.code_samples import CODES
from tests.samples import NOTHINGS, Wrong, check_raises

IN, NUM = ("in", 0, 0, 3), ("num", -5, 0, 1)


def with_rows(*rows):
    return (2, 1, rows)


# What is no code, the word and the number; of things with two faults the first in the list.
FAULTS = (
    ((), "shape", -1), ((2, 1), "shape", -1), ((2, 1, (IN,), 0), "shape", -1), ([2, 1, (IN,)], "shape", -1), ("abc", "shape", -1),
    ((0, 0), "shape", -1), ((0, 1, (IN,)), "size", -1), ((-1, 1, (IN,)), "size", -1), ((True, 1, (IN,)), "size", -1),
    (("2", 1, (IN,)), "size", -1), ((None, 0, ()), "size", -1), (((2,), 1, (IN,)), "size", -1), ((0, 0, ((),)), "size", -1),
    ((2, 0, (IN,)), "bottom", -1), ((2, -3, (IN,)), "bottom", -1), ((2, True, (IN,)), "bottom", -1), ((2, None, (IN,)), "bottom", -1),
    ((2, 0, ()), "bottom", -1), ((2, (1, 1), None), "bottom", -1),
    ((2, 1, ()), "rows", -1), ((2, 1, [IN]), "rows", -1), ((2, 1, None), "rows", -1), ((2, 1, "in"), "rows", -1), ((2, 1, IN[:0]), "rows", -1),
    (with_rows(None), "shape", 0), (with_rows(()), "shape", 0), (with_rows(list(IN)), "shape", 0), (with_rows(("in", 0, 0)), "shape", 0),
    (with_rows(IN, ("in", 0, 0, 3, 0)), "shape", 1), (with_rows(("mix", 0, 0, 3)), "shape", 0), (with_rows((1, 0, 0, 3)), "shape", 0),
    (with_rows((("in",), 0, 0, 3)), "shape", 0), (with_rows("in  "), "shape", 0), (with_rows(IN, IN, ("", 0, 0, 0)), "shape", 2),
    (with_rows(("call", "a", "f", (0,))), "shape", 0), (with_rows(("inn", 9, 9, 0)), "shape", 0),
    (with_rows(("in", 2, 0, 3)), "places", 0), (with_rows(("in", -1, 0, 3)), "places", 0), (with_rows(("in", False, 0, 3)), "places", 0),
    (with_rows(("in", 0, 1, 3)), "places", 0), (with_rows(("in", 0, False, 3)), "places", 0), (with_rows(("in", 0, None, 3)), "places", 0),
    (with_rows(("in", "0", 0, 3)), "places", 0), (with_rows(("in", 2, 0, 0)), "places", 0),
    (with_rows(("num", (1, 1), 0, 3)), "places", 0), (with_rows(("num", True, 0, 3)), "places", 0), (with_rows(("num", 3, 1, 3)), "places", 0),
    (with_rows(("num", 3, -1, 3)), "places", 0), (with_rows(("num", 3, False, 3)), "places", 0), (with_rows(("num", None, 0, None)), "places", 0),
    (with_rows(("add", 0, 0, 3)), "places", 0), (with_rows(IN, ("add", 0, 1, 4)), "places", 1), (with_rows(IN, ("sub", 1, 0, 4)), "places", 1),
    (with_rows(IN, ("mul", -1, 0, 4)), "places", 1), (with_rows(IN, ("mul", 0, False, 4)), "places", 1), (with_rows(IN, ("add", False, 0, 4)), "places", 1),
    (with_rows(IN, ("sub", 0, None, 4)), "places", 1), (with_rows(IN, ("sub", (0,), 0, 0)), "places", 1),
    (with_rows(("in", 0, 0, 0)), "width", 0), (with_rows(("in", 0, 0, -1)), "width", 0), (with_rows(("in", 0, 0, True)), "width", 0),
    (with_rows(("num", 3, 0, None)), "width", 0), (with_rows(IN, ("add", 0, 0, (4,))), "width", 1), (with_rows(IN, IN, ("mul", 0, 1, "5")), "width", 2),
    # Row by row: what is told of one comes before all of the next one.
    (with_rows(IN, ("in", 0, 0, 0), None), "width", 1), (with_rows(IN, ("add", 0, 1, 3), ("mix", 0, 0, 3)), "places", 1),
    (with_rows(("in", 0, 0, 0), ("add", 5, 5, 5)), "width", 0),
)


class Codes(unittest.TestCase):
    def test_example(self):
        check_raises(self, InvalidPaper, {"word": "places", "at": 1}, lets_code, (2, 1, (("in", 0, 0, 3), ("add", 0, 1, 4))))

    def test_codes(self):
        many = ("in", 39, 0, 3)
        for code in CODES + ((1, 1, (NUM,)), (1, 10 ** 12, (("num", -10 ** 12, 0, 1), NUM)), (40, 1, (many,) + tuple(("add", k, 0, 9) for k in range(399))),
                             (2, 1, (IN, ("add", 0, 0, 1), ("sub", 1, 0, 1), ("mul", 2, 2, 900))), (2, 7, (IN, NUM, IN))):
            self.assertIs(is_code(thing=code), True)
            self.assertEqual(lets_code(thing=code), len(code[2]))

    def test_no_codes(self):
        for thing, word, at in FAULTS:
            self.assertIs(is_code(thing), False, thing)
            check_raises(self, InvalidPaper, {"word": word, "at": at}, lets_code, thing)

    def test_any_value(self):
        for thing in NOTHINGS + (Wrong(), 7, "x" * 400, ((((),),),), {}, 1.5):
            self.assertIs(is_code(thing), False)
            check_raises(self, InvalidPaper, {"word": "shape", "at": -1}, lets_code, thing)
        self.assertIs(is_code((Wrong(), Wrong(), Wrong())), False)
        self.assertIs(is_code((2, 1, (Wrong(),))), False)
