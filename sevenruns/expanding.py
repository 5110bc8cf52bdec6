"""Programs multiplied out."""

from sevenruns.formmaking import form_negated, form_product, form_sum, number_form, place_form
from sevenruns.lines import reads_of
from sevenruns.reckoning import NOUGHT


def form_of(program):
    """The program's form."""
    return forms_of(program)[-1]


def forms_of(program):
    """The tuple of the forms of all lines, read or not, each of the program's size."""
    size, lines = program
    forms = input_forms(size)
    for line in lines:
        forms.append(line_form(size, line, [forms[place] for place in reads_of(line)]))
    return tuple(forms[size:])


def input_forms(size):
    """The list of the forms of the inputs."""
    return [place_form(size, which) for which in range(size)]


def line_form(size, line, read):
    """The form of a line whose reads have the forms read."""
    if line[0] == "num":
        return number_form(size, line[1])
    if line[0] == "mix":
        return mix_form(size, line[2], read)
    one, other = read
    if line[0] == "mul":
        return form_product(one, other)
    return form_sum(one, form_negated(other) if line[0] == "sub" else other)


def mix_form(size, numbers, read):
    """The form of all numbers of a mix, each times its product, added."""
    half = len(numbers) // 2
    if half == 0:
        return number_form(size, numbers[0])
    without = mix_form(size, numbers[:half], read[:-1])
    # A product with the number nought may be of a degree that the mix does not have.
    if all([number == NOUGHT for number in numbers[half:]]):
        return without
    return form_sum(without, form_product(mix_form(size, numbers[half:], read[:-1]), read[-1]))
