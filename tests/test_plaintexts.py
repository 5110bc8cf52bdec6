import unittest
from random import Random

from sevenruns.errors import InvalidText
from sevenruns.plaintexts import box_line, program_line, quotient_word, read_box, read_program, read_quotient, span_word
from tests.samples import HIDDEN, MIXED, MIXING, NO_QUOTIENTS, NO_TEXTS, Q0, Q1, Q2, SPREAD, THRICE, UNIT
from tests.samples import check_raises, check_refusals, random_box, random_number, random_program

GREAT = 10 ** 900
QUOTIENTS = ((Q0, "0"), ((4, 1), "4"), ((-3, 2), "-3/2"), ((-1, 1), "-1"), ((1, 10), "1/10"), ((GREAT, 1), str(GREAT)),
             ((-GREAT, GREAT + 1), f"-{GREAT}/{GREAT + 1}"))
# Texts of one field that are no quotient's.
SPOILT = ("", "+1", "-0", "00", "01", "-01", "1/1", "2/4", "0/1", "0/2", "1/0", "1/-2", "--1", "1/", "/2", "-", "/", "1/02",
          "1/2/3", "a", "1.5", "1,", "1\n", "\n1", "x0", "1;", "\u0661", "1_0", "0x1", "-1/1", "-2/4")


class PlainTexts(unittest.TestCase):
    def refused(self, function, text, field):
        check_raises(self, InvalidText, {"line": 0, "field": field}, function, text)

    def test_example(self):
        self.assertEqual(program_line((2, (("num", (3, 2)), ("mix", (0, 2), (Q0, Q1, Q1, (-1, 2)))))),
                         "2; num 3/2; mix 0 2 : 0 1 1 -1/2")

    def test_words_of_quotients(self):
        for quotient, word in QUOTIENTS:
            self.assertEqual(quotient_word(quotient), word)
            self.assertEqual(quotient_word(quotient=quotient), word)
            self.assertEqual(read_quotient(word), quotient)
            self.assertEqual(read_quotient(text=word), quotient)

    def test_words_of_spans_and_boxes(self):
        self.assertEqual(span_word((Q0, (3, 2))), "0:3/2")
        self.assertEqual(span_word(span=((-1, 2), (-1, 2))), "-1/2:-1/2")
        self.assertEqual(box_line((UNIT, ((-1, 2), Q2))), "0:1 -1/2:2")
        self.assertEqual(box_line(box=(UNIT,)), "0:1")

    def test_lines_of_programs(self):
        self.assertEqual(program_line(SPREAD), "3; mul 0 1; mul 0 2; add 3 4")
        self.assertEqual(program_line(program=THRICE), "2; mul 0 1; num -3; mul 2 3; sub 2 4")

    def test_spoilt_quotients(self):
        for text in SPOILT:
            self.refused(read_quotient, text, 0)
        for text in ("1 2", "1 ", "-1/2 x", "0  "):
            self.refused(read_quotient, text, 1)
        for text in (" 1", " ", "01 x"):
            self.refused(read_quotient, text, 0)

    def test_spoilt_boxes(self):
        for text in ("", "0", ":", "0:", ":1", "1:0", "0:1:2", "0:2/4", "00:1", "-0:1", "0:1;", "0 :1", "0:+1", " 0:1"):
            self.refused(read_box, text, 0)
        for text in ("0:1 ", "0:1  0:1", "0:1 1:0", "0:1 x 0:", "0:1 0"):
            self.refused(read_box, text, 1)
        self.refused(read_box, "0:1 -1/2:1/2 0:1 1/2:1/3", 3)

    def test_spoilt_programs(self):
        rows = (("", 0), ("2", 0), ("23", 0), ("2x", 0), ("12 num 1", 0), ("2;", 1), ("0;", 0), ("02;", 0), ("-1;", 0), ("x;", 0), (";", 0), ("2 ;", 0), (" 2;", 0),
                ("2;;", 0), ("2; ", 1), ("2; num", 2), ("2; num ", 2), ("2; num 01", 2), ("2; num 2/4", 2), ("2; num 1;", 3),
                ("2; num 1; ", 3), ("2; num 1 ", 3), ("2; num 1 num", 3), ("2; num 1;;", 2), ("2; num; 1", 1), ("2; div 0 1", 1),
                ("2; NUM 1", 1), ("2; add", 2), ("2; add 0", 3), ("2; add 0;", 2), ("2; add 0; 1", 2), ("2; add 0 2", 3),
                ("2; add 2 0", 2), ("2; add 00 1", 2), ("2; add 0 01", 3), ("2; add 0 -1", 3), ("2; add  0 1", 2),
                ("2; add 0 1 num 1", 4), ("2; add 0 1; mul 2 3", 6), ("2; add 0 1; mul 2 2; sub 4 3", 8), ("2; add 0 1;", 4),
                ("2; call a b 0", 1), ("2; add 0 1\n", 3))
        for text, field in rows:
            self.refused(read_program, text, field)

    def test_spoilt_mixes(self):
        eight = "1; mix" + " 0" * 8
        rows = (("1; mix", 2), ("1; mix :", 2), ("1; mix : 0", 2), ("1; mix 0", 3), ("1; mix 1", 2), ("1; mix 0 :", 4),
                ("1; mix 0 : 0", 5), ("1; mix 0 : 0;", 4), ("1; mix 0 : 0; 0", 4), ("1; mix 0 : 0 0 0", 6),
                ("1; mix 0 : 0 2/4", 5), ("1; mix 0 : 0 0;", 6), ("1; mix 0: 0 0", 2), ("1; mix 0 0 : 0 0 0", 8),
                ("1; mix 0 0 : 0 x 0", 6), ("1; mix 0 0 0;", 4), (eight, 10), (eight + " 0", 10), (eight + " :", 11),
                (eight + " :" + " 0" * 255, 11 + 255), (eight + " :" + " 0" * 257, 11 + 256))
        for text, field in rows:
            self.refused(read_program, text, field)

    def test_what_is_read(self):
        self.assertEqual(read_program("1; mix 0 0 : 0 1 1 -1/2; num 3/2"),
                         (1, (("mix", (0, 0), (Q0, Q1, Q1, (-1, 2))), ("num", (3, 2)))))
        self.assertEqual(read_box("0:1 -1/2:-1/2"), (UNIT, ((-1, 2), (-1, 2))))

    def test_what_is_written_is_read_and_stands_as_before(self):
        rng = Random(3)
        programs = [SPREAD, HIDDEN, MIXED, MIXING, (1, (("mix", (0,) * 8, (Q1,) * 256),))]
        programs += [random_program(rng, words=("add", "mul", "sub", "num", "mix")) for _ in range(100)]
        for program in programs:
            self.assertEqual(read_program(program_line(program)), program)
            self.assertEqual(program_line(read_program(text=program_line(program))), program_line(program))
            box = random_box(rng, program[0])
            self.assertEqual(read_box(text=box_line(box)), box)
            quotient = random_number(rng)
            self.assertEqual(read_quotient(quotient_word(quotient)), quotient)

    def test_refused(self):
        check_refusals(self, quotient_word, {"quotient": Q1}, {"quotient": NO_QUOTIENTS})
        for function, right in ((read_quotient, "1"), (read_box, "0:1"), (read_program, "1; num 0")):
            check_refusals(self, function, {"text": right}, {"text": NO_TEXTS})
