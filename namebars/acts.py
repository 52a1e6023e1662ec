"""The calls place, sink, revive, status, advance, replaced and lift, which keep acts."""

from namebars.book import Act
from namebars.kinds import ADVANCE
from namebars.kinds import REPLACED
from namebars.kinds import SINK
from namebars.kinds import STATUS
from namebars.refusals import BAD_KEY
from namebars.refusals import BOTH_THE_SAME
from namebars.refusals import FULL
from namebars.refusals import KEY_TAKEN
from namebars.refusals import NO_REFUSAL
from namebars.refusals import NOT_THERE
from namebars.refusals import OUT_OF_RANGE
from namebars.refusals import is_day
from namebars.refusals import is_key

MOST_ACTS = 80

STATUSES = (0, 1, 2)

# For each kind of act, what name its a is and what name its b is.
NAMES_TOLD = {
    1: ("species", "genus"),
    2: ("genus", "genus"),
    3: ("genus", "none"),
    4: ("either", "none"),
    5: ("either", "none"),
    6: ("species", "species"),
    7: ("species", "none"),
}


def is_told_name(book, wanted, key):
    if wanted == "genus":
        return key in book.genera
    if wanted == "species":
        return key in book.species
    if wanted == "either":
        return book.has_name(key)
    return True


def are_told_names(book, kind, a, b):
    wanted = NAMES_TOLD[kind]
    return is_told_name(book, wanted[0], a) and is_told_name(book, wanted[1], b)


def is_x_in_range(kind, x):
    if kind == STATUS:
        return x in STATUSES
    if kind == ADVANCE:
        return is_day(x)
    return True


def refuse_act(book, kind, key, work, a, b):
    if not is_key(key):
        return BAD_KEY
    if not is_x_in_range(kind, b):
        return OUT_OF_RANGE
    if book.has_act(key):
        return KEY_TAKEN
    if work not in book.work_days or not are_told_names(book, kind, a, b):
        return NOT_THERE
    if kind in (SINK, REPLACED) and a == b:
        return BOTH_THE_SAME
    if len(book.acts) >= MOST_ACTS:
        return FULL
    return NO_REFUSAL


def add_act(book, kind, call):
    key = call.numbers[0]
    work = call.numbers[1]
    a = call.numbers[2]
    b = call.numbers[3] if len(call.numbers) > 3 else 0
    refusal = refuse_act(book, kind, key, work, a, b)
    if refusal == NO_REFUSAL:
        book.keep_act(Act(key, kind, work, book.work_days[work], a, b))
    return [refusal]
