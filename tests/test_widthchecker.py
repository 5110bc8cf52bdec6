import unittest
from random import Random

from sevenruns.errors import InvalidPaper
from sevenruns.widthchecker import lets_widths
from sevenruns.widthpapers import width_paper
from tests.code_samples import BOX, CODE, LOOSE, LOOSE_BOX, SQUARE_CODE, code_values, random_code, some_whole_box, whole_box_of, whole_box_points, whole_point
from tests.code_samples import width_slowly
from tests.kind_samples import HALF
from tests.samples import NOTHINGS, Q0, Q1, UNIT, Wrong, check_raises, check_refusals, no_boxes

LOW, HIGH = ((0, 1), (0, 1)), ((3, 1), (3, 1))
ENDS = (LOW, HIGH)
RIGHT = (ENDS,) * 4


def with_entry(k, entry):
    """The right paper of CODE with another entry, and behind it what is no entry at all."""
    return RIGHT[:k] + (entry,) + (None,) * (3 - k)


def with_least_widths(code, box):
    """The code with the least widths on the box, at all points of whole quotients."""
    traces = [code_values(code, numbers) for numbers in whole_box_points(box)]
    return (code[0], code[1], tuple(row[:3] + (width_slowly(*(trace[k] for trace in traces)),) for k, row in enumerate(code[2])))


class Widths(unittest.TestCase):
    def refused(self, word, at, code, box, thing):
        check_raises(self, InvalidPaper, {"word": word, "at": at}, lets_widths, code, box, thing)

    def test_examples(self):
        self.assertEqual(lets_widths(CODE, BOX, RIGHT), 15)
        self.refused("less", 2, CODE, BOX, (ENDS, ENDS, (LOW, LOW), ENDS))

    def test_points_that_are_no_corners(self):
        one, two, three = (whole_point((k, 3 - k)) for k in (1, 2, 3))
        # 3 x1 - 3 is 6 at the corner; x0 x1 - x0 at (2, 3) is 4, which has the width of 6; x0 x1 is 8 or more at a corner alone.
        self.assertEqual(lets_widths(code=CODE, box=BOX, thing=(((LOW, whole_point((2, 1)))), (LOW, one), ENDS, (LOW, whole_point((2, 3))))), 15)
        self.refused("less", 0, CODE, BOX, ((LOW, one), ENDS, ENDS, ENDS))
        self.refused("less", 1, CODE, BOX, (ENDS, (LOW, three), ENDS, ENDS))
        self.refused("less", 2, CODE, BOX, (ENDS, ENDS, (whole_point((2, 3)), two), ENDS))
        self.refused("less", 3, CODE, BOX, (ENDS, ENDS, ENDS, (three, whole_point((1, 3)))))

    def test_one_point_is_enough(self):
        for pair in ((HIGH, LOW), (LOW, HIGH), (HIGH, HIGH)):
            self.assertEqual(lets_widths(CODE, BOX, (pair,) * 4), 15)

    def test_widths_of_1_need_nothing(self):
        code = (1, 1, (("in", 0, 0, 1), ("num", 0, 0, 1), ("add", 0, 1, 1)))
        for near, far in ((-1, 0), (-5, 7)):
            box = whole_box_of((near, far))
            pair = (((0, 1),), ((0, 1),))
            self.assertEqual(lets_widths(code, box, (pair,) * 3), 3)

    def test_whatever_the_widths_are(self):
        # Rows that do not fit stop no run, and widths that are too small are let.
        narrow = (2, 2, tuple(row[:3] + (1,) for row in CODE[2]))
        self.assertEqual(lets_widths(narrow, BOX, RIGHT), 4)
        mixed = (2, 2, (CODE[2][0][:3] + (1,),) + CODE[2][1:])
        self.assertEqual(lets_widths(mixed, BOX, RIGHT), 13)
        for k in range(4):
            wide = (2, 2, CODE[2][:k] + (CODE[2][k][:3] + (CODE[2][k][3] + 1,),) + CODE[2][k + 1:])
            self.refused("less", k, wide, BOX, RIGHT)

    def test_bent_rows_and_many_inputs_and_rows(self):
        # A checker runs alone: a code that is not of first degree, one of forty inputs.
        box = whole_box_of((0, 2), (0, 2))
        code = with_least_widths(SQUARE_CODE, box)
        corners = (whole_point((0, 0)), whole_point((2, 2)))
        self.assertEqual(lets_widths(code, box, (corners,) * 6), sum(row[3] for row in code[2]))
        long = (40, 1, (("in", 39, 0, 3),) + tuple(("add", k, k, k + 4) for k in range(399)))
        pair = ((Q0,) * 39 + ((-4, 1),),) * 2
        self.assertEqual(lets_widths(long, whole_box_of(*((-4, 3),) * 40), (pair,) * 400), sum(row[3] for row in long[2]))

    def test_papers(self):
        rng = Random(812)
        for code, box in [(LOOSE, LOOSE_BOX)] + [(code, some_whole_box(rng, code[0], reach=2)) for code in (random_code(rng) for _ in range(150))]:
            least = with_least_widths(code, box)
            paper = width_paper(least, box)
            self.assertEqual(lets_widths(least, box, paper), sum(row[3] for row in least[2]))
            k = rng.randrange(len(code[2]))
            wide = least[:2] + (least[2][:k] + (least[2][k][:3] + (least[2][k][3] + 1,),) + least[2][k + 1:],)
            self.refused("less", k, wide, box, width_paper(wide, box))

    def test_shape(self):
        for thing in NOTHINGS + (Wrong(), (), RIGHT[:3], RIGHT + (ENDS,), list(RIGHT), (ENDS, ENDS), 4, "abcd"[:3]):
            self.refused("shape", -1, CODE, BOX, thing)

    def test_points(self):
        point = whole_point((1, 2))
        wrong = NOTHINGS + (Wrong(), (), (LOW,), (LOW, HIGH, LOW), [LOW, HIGH], (LOW, None), (None, LOW), (LOW, list(HIGH)), (LOW, (Q0,)), (LOW, (Q0, Q0, Q0)),
                            (LOW, (Q0, HALF)), (((3, 2), Q1), HIGH), (LOW, ((4, 1), Q0)), (((-1, 1), Q0), HIGH), (LOW, ((True, 1), Q0)), (LOW, (Q0, (2, 2))), (LOW, (0, 0)),
                            (point, (Q0, (100, 1))))
        for k in range(4):
            for entry in wrong:
                self.refused("points", k, CODE, BOX, with_entry(k, entry))

    def test_two_faults(self):
        self.refused("less", 1, CODE, BOX, (ENDS, (LOW, LOW), None, ENDS))
        self.refused("points", 1, CODE, BOX, (ENDS, (LOW, None), (LOW, LOW), ENDS))
        self.refused("points", 2, CODE, BOX, (ENDS, ENDS, (LOW, LOW, LOW), (LOW, LOW)))
        self.refused("less", 0, CODE, BOX, ((LOW, LOW), (LOW, LOW), (LOW, LOW), None))
        self.refused("shape", -1, CODE, BOX, ((LOW, LOW),))

    def test_boxes(self):
        wrong = no_boxes(2) + ((UNIT, (Q0, HALF)), ((HALF, Q1), UNIT), ())
        check_refusals(self, lets_widths, {"code": CODE, "box": BOX, "thing": RIGHT}, {"box": wrong})
        check_refusals(self, lets_widths, {"code": CODE, "box": BOX, "thing": None}, {"box": wrong})
