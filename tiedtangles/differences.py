"""The first difference between two tangles, by its number in the table under "compare" in DOC.md."""

from tiedtangles.colorings import is_countable, number_of_colorings
from tiedtangles.components import Tracing


def first_difference(one, other):
    """The number of the first difference, or 0 if there is none."""
    if one.top != other.top or one.bottom != other.bottom:
        return 1
    tracing = Tracing(one.top, one.word)
    other_tracing = Tracing(other.top, other.word)
    if tracing.joined_ends() != other_tracing.joined_ends():
        return 2
    if tracing.linkings() != other_tracing.linkings():
        return 3
    if differ_in_colorings(one, other, 3):
        return 4
    if differ_in_colorings(one, other, 5):
        return 5
    return 0


def differ_in_colorings(one, other, p):
    """Whether both can be counted, and the numbers of colorings with p colors differ."""
    if not is_countable(one, p) or not is_countable(other, p):
        return False
    return number_of_colorings(one, p) != number_of_colorings(other, p)
