"""Shares of copies: which part of each step of an exact program they make."""

from sevenruns.carrying import place_loads
from sevenruns.exactpapers import exact_paper
from sevenruns.reckoning import NOUGHT, ONE, added, divided, multiplied
from sevenruns.unfolding import copy_counts, read_starts


def shares_of(program):
    """The tuple of the copies' shares, nought where the form over copies does not hang on one."""
    parts = {(k, which): factor for k, lot, factor in exact_paper(program) for which in lot}
    size, lines = program
    numbers = place_loads(program)[1]
    counts = copy_counts(program)
    shares = [NOUGHT for _ in range(counts[-1])]
    # A place where it stands in the term: its first copy, and the share of all its copies of each input.
    standing = [(size + len(lines) - 1, 0, {which: ONE for which in range(size)})]
    while standing:
        place, start, wholes = standing.pop()
        if place < size:
            shares[start] = wholes[place]
        elif numbers[place] is None:
            reads = read_starts(lines[place - size], start, counts)
            split = split_wholes(wholes, place - size, parts)
            standing.extend([(read, first, own) for (read, first), own in zip(reads, split)])
    return tuple(shares)


def split_wholes(wholes, k, parts):
    """For both reads of line k what they have of the shares wholes of its copies."""
    ones, others = {}, {}
    for which, whole in wholes.items():
        if (k, which) in parts:
            # The first read's part is factor times the second one's, so it makes factor shares of factor + 1.
            factor = parts[(k, which)]
            others[which] = divided(whole, added(factor, ONE))
            ones[which] = multiplied(others[which], factor)
        else:
            ones[which] = others[which] = whole
    return (ones, others)
