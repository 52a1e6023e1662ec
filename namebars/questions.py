"""The calls that ask and change nothing."""

from namebars.refusals import NO_REFUSAL
from namebars.refusals import NOT_THERE
from namebars.refusals import OUT_OF_RANGE
from namebars.refusals import is_day
from namebars.standing import is_out
from namebars.standing import precedence_of
from namebars.standing import status_of


def refuse_name_at(book, d, key):
    """Looks at a day and at a name, of either kind, that must be out then."""
    if not is_day(d):
        return OUT_OF_RANGE
    name = book.find_name(key)
    if name is None or not is_out(name, d):
        return NOT_THERE
    return NO_REFUSAL


def ask_status(book, call):
    d = call.numbers[0]
    a = call.numbers[1]
    refusal = refuse_name_at(book, d, a)
    if refusal != NO_REFUSAL:
        return [refusal]
    return [status_of(book, d, book.find_name(a))]


def ask_precedence(book, call):
    d = call.numbers[0]
    a = call.numbers[1]
    refusal = refuse_name_at(book, d, a)
    if refusal != NO_REFUSAL:
        return [refusal]
    return [0] + precedence_of(book, d, book.find_name(a))
