import unittest

from sevenruns.errors import InvalidText
from sevenruns.unittexts import read_unit, unit_text
from tests.samples import NO_TEXTS, Q0, Q1, Q2, TANK, UNIT, check_raises, check_refusals

TEXT = "unit tank\ndef level 0:1\ncall pump flow 0\nkeep 1 0:1\ndone\nend"
WIDE = ("wide", (("a", (UNIT, ((-1, 2), Q2)), (("num", (3, 2)), ("add", 0, 1), ("sub", 3, 2), ("mul", 4, 4),
                                               ("call", "wide", "a", (0, 5, 0))), ((0, UNIT), (2, UNIT), (6, (Q1, Q1)))),
                 ("ab", (UNIT,), (("num", Q0),), ())))
WIDE_TEXT = """unit wide
def a 0:1 -1/2:2
num 3/2
add 0 1
sub 3 2
mul 4 4
call wide a 0 5 0
keep 0 0:1
keep 2 0:1
keep 6 1:1
done
def ab 0:1
num 0
done
end"""


class UnitTexts(unittest.TestCase):
    def refused(self, text, line, field):
        check_raises(self, InvalidText, {"line": line, "field": field}, read_unit, text)

    def test_examples(self):
        self.assertEqual(unit_text(TANK), TEXT)
        self.refused("unit a\ndef b 0:1\nadd 0 1\ndone\nend", 2, 0)

    def test_written_and_read(self):
        self.assertEqual(unit_text(unit=WIDE), WIDE_TEXT)
        for unit in (TANK, WIDE):
            self.assertEqual(read_unit(unit_text(unit)), unit)
            self.assertEqual(unit_text(read_unit(text=unit_text(unit))), unit_text(unit))

    def test_each_line_behind_each(self):
        lines = (("num", Q0), ("add", 0, 0), ("sub", 0, 0), ("mul", 0, 0), ("call", "a", "b", (0,)))
        for one in lines:
            for other in lines:
                unit = ("a", (("b", (UNIT,), (one, other), ()),))
                self.assertEqual(read_unit(unit_text(unit)), unit)

    def test_great_numbers(self):
        great = 10 ** 900
        unit = ("a", (("a", (((-great, 1), (1, great)),), (("num", (great, great + 1)),), ()),))
        self.assertEqual(read_unit(unit_text(unit)), unit)

    def test_first_words_that_can_not_come_there(self):
        rows = TEXT.split("\n")
        # Behind each row (none ahead of the first) just these first words can come.
        lines = ("num", "add", "sub", "mul", "call")
        let = (("unit",), ("def",), lines, lines + ("keep", "done"), ("keep", "done"), ("def", "end"), ())
        words = ("unit", "def", "num", "add", "sub", "mul", "call", "mix", "keep", "done", "end", "", "UNIT", "x")
        for at, right in enumerate(let):
            for word in words:
                if word not in right:
                    self.refused("\n".join(rows[:at] + [word + " spoilt"]), at, 0)
                    self.refused("\n".join(rows[:at] + [word] + rows[at + 1:]), at, 0)

    def in_row(self, at, row, field):
        rows = TEXT.split("\n")
        self.refused("\n".join(rows[:at] + [row] + rows[at + 1:]), at, field)

    def test_unit_rows(self):
        for row, field in (("unit", 1), ("unit ", 1), ("unit A", 1), ("unit abcdefghi", 1), ("unit a b", 2), ("unit a ", 2),
                           (" unit a", 0), ("unit  a", 1)):
            self.in_row(0, row, field)

    def test_def_rows(self):
        for row, field in (("def", 1), ("def b", 2), ("def B", 1), ("def B x", 1), ("def b x", 2), ("def b 1:0", 2),
                           ("def b 0:1 ", 3), ("def b 0:1 0:1 0", 4), ("def b 0:2/4", 2), ("def  b 0:1", 1), ("def 0:1", 1)):
            self.in_row(1, row, field)

    def test_lines(self):
        for row, field in (("num", 1), ("num x", 1), ("num 2/4", 1), ("num 1 1", 2), ("num 01 1", 1), ("num -0", 1),
                           ("add", 1), ("add 0", 2), ("add 0 ", 2), ("add 00 0", 1), ("add x", 1), ("sub 0 0 0", 3),
                           ("sub 0 -1", 2), ("mul 0 x 0", 2), ("mul 5 x", 2), ("add 1 0", 0), ("add 0 1", 0),
                           ("sub 1 0", 0), ("sub 0 1", 0), ("mul 1 0", 0), ("mul 0 1", 0), ("add 99 99 9", 3), ("sub 0 1/2", 2), ("add +0 0", 1)):
            self.in_row(2, row, field)

    def test_calls(self):
        for row, field in (("call", 1), ("call a", 2), ("call a b", 3), ("call A", 1), ("call a B 0", 2), ("call a b x", 3),
                           ("call a b 0 0 01", 5), ("call a b ", 3), ("call a b 0 ", 4), ("call a b 1", 0),
                           ("call a b 0 1 0", 0), ("call a b 1 x", 4), ("call a 0", 2)):
            self.in_row(2, row, field)

    def test_keeps(self):
        for row, field in (("keep", 1), ("keep 1", 2), ("keep x", 1), ("keep 01 0:1", 1), ("keep 1 1:0", 2),
                           ("keep 1 0:1 0", 3), ("keep 2 0:1", 0), ("keep 2 0:1 ", 3), ("keep 9 x", 2)):
            self.in_row(3, row, field)

    def test_done_and_end(self):
        for at, word in ((4, "done"), (5, "end")):
            self.in_row(at, word + " x", 1)
            self.in_row(at, word + " ", 1)

    def test_places_grow_line_by_line(self):
        start = "unit a\ndef b 0:1 0:1\n"
        self.refused(start + "add 0 2\ndone\nend", 2, 0)
        self.refused(start + "add 0 1\nadd 2 3\ndone\nend", 3, 0)
        self.refused(start + "add 0 1\ncall a b 0 3\ndone\nend", 3, 0)
        self.refused(start + "add 0 1\nkeep 3 0:1\ndone\nend", 3, 0)
        self.refused(start + "add 0 1\nkeep 2 0:1\nkeep 2 0:1\ndone\nend", 4, 0)
        self.refused(start + "add 0 1\nkeep 2 0:1\nkeep 1 0:1\ndone\nend", 4, 0)

    def test_places_and_keeps_begin_anew_in_each_function(self):
        start = "unit a\ndef b 0:1 0:1\nadd 0 1\nkeep 2 0:1\ndone\n"
        self.refused(start + "def c 0:1\nadd 0 1\ndone\nend", 6, 0)
        self.refused(start + "def c 0:1\nadd 0 0\nkeep 2 0:1\ndone\nend", 7, 0)
        unit = read_unit(start + "def c 0:1\nadd 0 0\nkeep 0 0:1\ndone\nend")
        self.assertEqual(unit[1][1], ("c", (UNIT,), (("add", 0, 0),), ((0, UNIT),)))

    def test_names_of_functions_ascend(self):
        start = "unit a\ndef b 0:1\nnum 0\ndone\n"
        for name in ("b", "a", "aa"):
            self.refused(start + f"def {name} 0:1\nnum 0\ndone\nend", 4, 0)
            self.refused(start + f"def {name} 0:1 x\nnum 0\ndone\nend", 4, 3)
        self.assertEqual(len(read_unit(start + "def ba 0:1\nnum 0\ndone\nend")[1]), 2)

    def test_texts_without_an_end(self):
        rows = TEXT.split("\n")
        for many in range(1, len(rows)):
            self.refused("\n".join(rows[:many]), many, 0)
        self.refused("", 0, 0)
        self.refused(TEXT + "\n", 6, 0)
        self.refused("\n" + TEXT, 0, 0)
        self.refused(TEXT.replace("\n", "\n\n"), 1, 0)

    def test_refused(self):
        check_refusals(self, read_unit, {"text": TEXT}, {"text": NO_TEXTS})
