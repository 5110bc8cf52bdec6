"""The checker of papers that show that a plain program is exact."""

from sevenruns.asking import ask_plain
from sevenruns.errors import InvalidPaper
from sevenruns.linked import parts_in
from sevenruns.reckoning import NOUGHT, is_less
from sevenruns.things import is_input, is_lot, is_quotient
from sevenruns.walks import Walk, shared_factor


def lets_exact(program, thing):
    """How many rows the paper thing has; InvalidPaper for what does not show that the program is exact."""
    ask_plain(program)
    ask_rows(program, thing)
    walk = Walk(program)
    for k in walk.counting:
        if walk.lines[k][0] == "mul":
            if walk.shared(k):
                raise InvalidPaper("mul", k)
        elif walk.lines[k][0] != "num":
            ask_sum(walk, k, thing)
        walk.go_past(k)
    for at in range(len(thing)):
        k = thing[at][0]
        if k not in walk.counting or walk.lines[k][0] not in ("add", "sub"):
            raise InvalidPaper("line", at)
    return len(thing)


def ask_rows(program, thing):
    """Refuses what is no tuple of ascending rows for the program."""
    if not isinstance(thing, tuple):
        raise InvalidPaper("shape", -1)
    for at in range(len(thing)):
        if not is_row(program, thing[at]):
            raise InvalidPaper("shape", at)
        if at > 0 and thing[at][:2] <= thing[at - 1][:2]:
            raise InvalidPaper("shape", at)


def is_row(program, row):
    """True if row is a triple of a line's number, a lot of inputs and a quotient above nought."""
    if not isinstance(row, tuple) or len(row) != 3:
        return False
    k, lot, factor = row
    if not is_input(len(program[1]), k) or not is_lot(program[0], lot):
        return False
    return is_quotient(factor) and is_less(NOUGHT, factor)


def ask_sum(walk, k, rows):
    """Refuses rows that do not tell all that both reads of line k, an add or sub, share."""
    one, other = walk.read_forms(k)
    told = []
    for at in range(len(rows)):
        if rows[at][0] == k:
            ask_part(one, other, rows[at], at)
            told.extend(rows[at][1])
    if not all([which in told for which in walk.shared(k)]):
        raise InvalidPaper("open", k)


def ask_part(one, other, row, at):
    """Refuses a row unless its lot is a linked part of both forms, with its factor between them."""
    _, lot, factor = row
    if lot not in parts_in(one) or lot not in parts_in(other):
        raise InvalidPaper("lot", at)
    if shared_factor(one, other, lot) != factor:
        raise InvalidPaper("factor", at)
