"""The least and the greatest value of each row of a code at the corners of a box."""

from sevenruns.asking import ask
from sevenruns.boxes import corners_of
from sevenruns.coding import is_whole_box, span_of
from sevenruns.formfacts import ask_first
from sevenruns.formmaking import form_difference, form_product, form_sum, number_form, place_form
from sevenruns.machine import free_values


def row_spans(code, box):
    """For each row the pair of its least and its greatest value at the corners of the box."""
    corners = asked_corners(code, box)
    traces = [free_values(code, corner) for corner in corners]
    return tuple(span_of([trace[k] for trace in traces]) for k in range(len(code[2])))


def asked_corners(code, box):
    """The list of the corners of the box; refuses it unless it is one of whole ends, then rows not of first degree."""
    ask_whole_box(code, box)
    ask_first_rows(code)
    return list(corners_of(box))


def ask_whole_box(code, box):
    """Refuses box unless it has a side with whole ends for each input of the code."""
    ask(is_whole_box(code[0], box), "box")


def ask_first_rows(code):
    """Raises Bent for the first row that, as a form of the inputs, is not of first degree."""
    forms = []
    for row in code[2]:
        form = row_form(code[0], row, forms)
        ask_first(form)
        forms.append(form)


def row_form(size, row, forms):
    """The form of a row behind rows of these forms."""
    word, one, other, _ = row
    if word == "in":
        return place_form(size, one)
    if word == "num":
        return number_form(size, (one, 1))
    if word == "mul":
        return form_product(forms[one], forms[other])
    return form_sum(forms[one], forms[other]) if word == "add" else form_difference(forms[one], forms[other])
