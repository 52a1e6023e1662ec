"""What the calls that ask about names at a day refuse."""

from namebars.refusals import NO_REFUSAL
from namebars.refusals import NOT_THERE
from namebars.refusals import OUT_OF_RANGE
from namebars.refusals import is_day


def is_out_among(names, d, key):
    """Whether among these names, a dict by their keys, there is one of this key that is out at d."""
    return key in names and names[key].is_out(d)


def refuse_name_at(book, d, key):
    if not is_day(d):
        return OUT_OF_RANGE
    if is_out_among(book.genera, d, key) or is_out_among(book.species, d, key):
        return NO_REFUSAL
    return NOT_THERE


def refuse_two_at(d, a, a_names, b, b_names):
    """As for one name, but a and b must each be one of the names told behind it."""
    if not is_day(d):
        return OUT_OF_RANGE
    if is_out_among(a_names, d, a) and is_out_among(b_names, d, b):
        return NO_REFUSAL
    return NOT_THERE
