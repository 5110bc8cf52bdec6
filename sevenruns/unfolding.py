"""Programs written out: which lines stand in the term, and the program over copies."""

from sevenruns.lines import reads_of


def term_lines(program):
    """The ascending list of the lines that stand in the term, the last one and what it reads."""
    size, lines = program
    needed = [False for _ in lines]
    needed[-1] = True
    for k in range(len(lines) - 1, -1, -1):
        if needed[k]:
            for place in reads_of(lines[k]):
                if place >= size:
                    needed[place - size] = True
    return [k for k in range(len(lines)) if needed[k]]


def copy_counts(program):
    """The list of how many copies stand in each place, written out."""
    counts = [1 for _ in range(program[0])]
    for line in program[1]:
        counts.append(sum([counts[place] for place in reads_of(line)]))
    return counts


def read_starts(line, start, counts):
    """The list of the pairs of each read and its first copy, the line's first copy being start."""
    pairs = []
    for place in reads_of(line):
        pairs.append((place, start))
        start += counts[place]
    return pairs


def line_starts(program, counts):
    """For each line the ascending list of the first copies that it has where it stands in the term."""
    size, lines = program
    starts = [{} for _ in lines]
    starts[-1][0] = True
    for k in range(len(lines) - 1, -1, -1):
        firsts = sorted(starts[k])
        for start in firsts:
            for place, first in read_starts(lines[k], start, counts):
                if place >= size:
                    starts[place - size][first] = True
    return [sorted(found) for found in starts]


def with_reads(line, places):
    """The line with these places in the place of its reads."""
    if line[0] == "num":
        return line
    if line[0] == "mix":
        return ("mix", tuple(places), line[2])
    return (line[0], places[0], places[1])


def unfolded(program):
    """The pair of the tuple of each copy's input, and the program whose inputs are the copies.

    Without copies the size of this program is 0."""
    size, lines = program
    counts = copy_counts(program)
    starts = line_starts(program, counts)
    copies = [0 for _ in range(counts[-1])]
    wide = []
    # A line without copies is the same wherever it stands, but may stand at several firsts.
    names = {}
    for k in range(len(lines)):
        for start in starts[k]:
            places = []
            for place, first in read_starts(lines[k], start, counts):
                if place < size:
                    copies[first] = place
                    places.append(first)
                else:
                    places.append(names[(place - size, first)])
            names[(k, start)] = len(copies) + len(wide)
            wide.append(with_reads(lines[k], places))
    return tuple(copies), (len(copies), tuple(wide))
