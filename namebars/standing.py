"""What holds of one name at a day, by the acts of that day's past."""

from namebars.kinds import ADVANCE
from namebars.kinds import STATUS


def is_out(name, d):
    return name.day <= d


def latest_act(book, d, kind, a):
    """The latest act of this kind about name a in d's past, or None."""
    latest = None
    for act in book.acts:
        if act.day <= d and act.kind == kind and act.a == a:
            latest = act
    return latest


def status_of(book, d, name):
    act = latest_act(book, d, STATUS, name.key)
    return 0 if act is None else act.b


def precedence_of(book, d, name):
    """Five numbers: of two names, the one with the lesser list is before the other."""
    act = latest_act(book, d, ADVANCE, name.key)
    given_day = name.day if act is None else act.b
    return [given_day, name.day, name.work, name.page, name.key]
