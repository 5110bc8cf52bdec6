"""Rows of texts, whose fields are each of a sort, read field by field."""

from sevenruns.errors import InvalidText
from sevenruns.unitthings import is_name
from sevenruns.words import number_in, quotient_in, span_in, whole_in


def row_values(at, fields, sorts, endless):
    """The list of the values behind the first word of the row with number at, each of its sort.

    The last sort may come again if endless. InvalidText for the first field that is not of its
    sort or one too many, or for a row too short."""
    values = []
    for k in range(1, len(fields)):
        if k > len(sorts) and not endless:
            raise InvalidText(at, k)
        value = value_in(sorts[min(k, len(sorts)) - 1], fields[k])
        if value is None:
            raise InvalidText(at, k)
        values.append(value)
    if len(values) < len(sorts):
        raise InvalidText(at, len(fields))
    return values


def value_in(sort, field):
    """The value of this sort that the field tells, else None."""
    if sort == "name":
        return field if is_name(field) else None
    if sort == "number":
        return number_in(field)
    if sort == "positive":
        # Nought is no width, no size and no bottom.
        return number_in(field) or None
    if sort == "whole":
        return whole_in(field)
    return quotient_in(field) if sort == "quotient" else span_in(field)
