import unittest
from random import Random

from sevenruns.codetexts import code_text, read_code
from sevenruns.coding import code_of
from sevenruns.errors import InvalidText
from tests.code_samples import CODE, CODES, LOOSE, random_code, some_whole_box
from tests.kind_samples import FIRST_KINDS, lot_slowly
from tests.samples import NO_TEXTS, check_raises, check_refusals

TEXT = "code 2 2\nin 0 3\nin 1 3\nmul 0 1 5\nsub 2 0 4"
GREAT = 10 ** 900


class CodeTexts(unittest.TestCase):
    def refused(self, text, line, field):
        check_raises(self, InvalidText, {"line": line, "field": field}, read_code, text)

    def in_row(self, at, row, field):
        """Refused so with this row, whatever the rows behind it are."""
        rows = TEXT.split("\n")
        self.refused("\n".join(rows[:at] + [row]), at, field)
        self.refused("\n".join(rows[:at] + [row] + rows[at + 1:]), at, field)
        self.refused("\n".join(rows[:at] + [row, "", "x y z", "in 99 0"]), at, field)

    def test_examples(self):
        self.assertEqual(code_text(CODE), TEXT)
        self.refused("code 1 1\nin 0 02", 1, 2)
        self.refused("code 1 1\nin 0 2\nadd 0 1 3", 2, 1)

    def test_by_hand(self):
        self.assertEqual(code_text(code=LOOSE), "code 3 5\nnum -7 9\nin 2 6\nnum 0 1\nin 2 8\nadd 1 3 7\nmul 4 2 1\nsub 4 0 12\nmul 0 1 20\nin 0 3\nadd 6 8 30")
        self.assertEqual(read_code(text="code 12 7\nnum 0 1\nadd 0 0 100"), (12, 7, (("num", 0, 0, 1), ("add", 0, 0, 100))))
        self.assertEqual(read_code("code 40 1\nin 39 1"), (40, 1, (("in", 39, 0, 1),)))
        great = (GREAT, GREAT, (("num", -GREAT, 0, GREAT), ("in", GREAT - 1, 0, 1)))
        self.assertEqual(code_text(great), f"code {GREAT} {GREAT}\nnum -{GREAT} {GREAT}\nin {GREAT - 1} 1")
        self.assertEqual(read_code(code_text(great)), great)

    def test_written_and_read(self):
        rng = Random(831)
        codes = [*CODES] + [random_code(rng, first=False) for _ in range(200)]
        codes += [code_of(kind, some_whole_box(rng, lot_slowly(kind)[-1] + 1)) for kind in FIRST_KINDS]
        for code in codes:
            text = code_text(code)
            self.assertEqual(read_code(text), code)
            self.assertEqual(code_text(read_code(text)), text)

    def test_first_rows(self):
        for row, field in (("", 0), ("Code 2 2", 0), ("codes 2 2", 0), (" code 2 2", 0), ("in 0 3", 0), ("2 2", 0), ("unit a", 0),
                           ("code", 1), ("code ", 1), ("code 0 2", 1), ("code -1 2", 1), ("code x 2", 1), ("code 02 2", 1), ("code 1/2 2", 1), ("code  2 2", 1), ("code +1 1", 1),
                           ("code 2", 2), ("code 2 ", 2), ("code 2 0", 2), ("code 2 -2", 2), ("code 2 1/2", 2), ("code 2 00", 2), ("code 2 x 3", 2), ("code 0 0 0", 1),
                           ("code 2 2 2", 3), ("code 2 2 ", 3), ("code 2 2  ", 3)):
            self.in_row(0, row, field)
            self.refused(row, 0, field)

    def test_first_row_alone(self):
        for row in ("code 2 2", "code 1 1", "code 400 9"):
            self.refused(row, 1, 0)
            self.refused(row + "\n", 1, 0)

    def test_words(self):
        for row in ("", " ", "code 2 2", "IN 0 3", "call a f 0", "mix 0 : 1", "x", "in\t0 3", "inn 0 3", "0 3", " in 0 3", "div 0 0 3"):
            for at in (1, 2, 4):
                self.in_row(at, row, 0)
        self.refused(TEXT + "\n", 5, 0)
        self.refused(TEXT + "\n\n", 5, 0)
        self.refused("\n" + TEXT, 0, 0)
        self.refused(TEXT.replace("\n", "\n\n"), 1, 0)

    def test_inputs(self):
        for row, field in (("in", 1), ("in ", 1), ("in x 3", 1), ("in -1 3", 1), ("in 00 3", 1), ("in 01 0", 1), ("in 1/2 3", 1), ("in -0 3", 1), ("in 0", 2), ("in 0 ", 2),
                           ("in 0 0", 2), ("in 0 -3", 2), ("in 0 03", 2), ("in 0 3 ", 3), ("in 0 3 4", 3), ("in 0  3", 2), ("in  0 3", 1), ("in 0 0 3", 2),
                           # An input that is not below the size, behind all that is told of single fields.
                           ("in 2 3", 1), ("in 99 3", 1), ("in 2", 2), ("in 2 0", 2), ("in 2 3 3", 3)):
            self.in_row(1, row, field)

    def test_numbers(self):
        for row, field in (("num", 1), ("num ", 1), ("num x 3", 1), ("num 1/2 3", 1), ("num -0 3", 1), ("num 03 3", 1), ("num +3 3", 1), ("num --3 3", 1), ("num 2/1 3", 1),
                           ("num 5", 2), ("num -5 ", 2), ("num -5 0", 2), ("num 0 -1", 2), ("num 5 04", 2), ("num 5 4 3", 3), ("num 5 4 ", 3), ("num 5 0 4", 2)):
            self.in_row(1, row, field)

    def test_rows_that_read(self):
        for word in ("add", "sub", "mul"):
            for row, field in (("", 1), (" ", 1), (" x 0 4", 1), (" -1 0 4", 1), (" 00 0 4", 1), (" 0", 2), (" 0 ", 2), (" 0 x 4", 2), (" 0 -1 4", 2), (" 0 01 4", 2), ("  0 0 4", 1),
                               (" 0 1", 3), (" 0 1 ", 3), (" 0 1 0", 3), (" 0 1 -4", 3), (" 0 1 04", 3), (" 0 1 1/2", 3), (" 0 1 4 ", 4), (" 0 1 4 5", 4),
                               # Rows that are not earlier, behind all that is told of single fields.
                               (" 2 0 4", 1), (" 0 2 4", 1), (" 3 0 4", 1), (" 1 99 4", 1), (" 2", 2), (" 2 x 4", 2), (" 2 0", 3), (" 0 2 0", 3), (" 0 9 4 5", 4)):
                self.in_row(3, word + row, field)
            self.refused(f"code 1 1\n{word} 0 0 4", 1, 1)
            self.assertEqual(read_code(f"code 1 1\nnum 3 9\n{word} 0 0 4")[2][1], (word, 0, 0, 4))

    def test_the_first_row_that_does_not_fit(self):
        self.refused("code 2 0\nin 9 3", 0, 2)
        self.refused("code 2 1\nin 9 3\nadd 0 0 0", 1, 1)
        self.refused("code 2 1\nin 0 3\nadd 0 1 3\nin 2 x", 2, 1)
        self.refused("code 2 1\nin 0 3\nin 1 3\nadd 0 0 0\nin x", 3, 3)

    def test_refused(self):
        check_refusals(self, read_code, {"text": TEXT}, {"text": NO_TEXTS + (CODE, TEXT.split("\n"))})
