"""Told spans: each line's span out of the spans of what it reads alone."""

from sevenruns.asking import ask_box
from sevenruns.lines import reads_of
from sevenruns.reckoning import span_over
from sevenruns.runs import with_last
from sevenruns.spans import span_minus, span_plus, span_times


def told_spans(program, box):
    """The tuple of the told spans of all places, the inputs first."""
    ask_box(program[0], box)
    spans = list(box)
    for line in program[1]:
        spans.append(line_span(line, [spans[place] for place in reads_of(line)]))
    return tuple(spans)


def told_span(program, box):
    """The told span of the result."""
    return told_spans(program, box)[-1]


def line_span(line, read):
    """The told span of a line whose reads have these spans, each read by itself."""
    if line[0] == "num":
        return (line[1], line[1])
    if line[0] == "mix":
        return mix_span(line[2], read)
    one, other = read
    if line[0] == "add":
        return span_plus(one, other)
    if line[0] == "sub":
        return span_minus(one, other)
    return span_times(one, other)


def mix_span(numbers, read):
    """The told span of a mix; its value is of first degree in each read, so ends are enough."""
    rows = [list(numbers)]
    for span in reversed(read):
        rows = [with_last(row, end) for row in rows for end in span]
    return span_over([row[0] for row in rows])
