"""The calls barred, first and history, which ask about many names or many days."""

from namebars.bars import NO_BAR
from namebars.bars import bar_of
from namebars.bars import is_usable
from namebars.refusals import NOT_THERE
from namebars.refusals import OUT_OF_RANGE
from namebars.refusals import is_day
from namebars.timeline import Timeline


def ask_barred(book, call):
    d = call.numbers[0]
    if not is_day(d):
        return [OUT_OF_RANGE]
    timeline = Timeline(book, book.acts)
    answer = [0]
    for name in timeline.at_day(d).names_in_order(book.all_names()):
        bar = bar_of(timeline, d, name)
        if bar != NO_BAR:
            answer.extend([name.key, bar[0], bar[1]])
    return answer


def ask_first(book, call):
    d = call.numbers[0]
    wanted = call.rows[0]
    if not is_day(d):
        return [OUT_OF_RANGE]
    timeline = Timeline(book, book.acts)
    names = [name for name in book.all_names() if name.key in wanted]
    for name in timeline.at_day(d).names_in_order(names):
        if is_usable(timeline, d, name):
            return [name.key]
    return [0]


def days_from(book, first_day):
    """The days of works: names and acts have no others, so that bars change on no other day."""
    return sorted(set([day for day in book.work_days.values() if day >= first_day]))


def ask_history(book, call):
    name = book.find_name(call.numbers[0])
    if name is None:
        return [NOT_THERE]
    timeline = Timeline(book, book.acts)
    answer = [0]
    bar_before = NO_BAR
    for d in days_from(book, name.day):
        bar = bar_of(timeline, d, name)
        if d == name.day or bar != bar_before:
            answer.extend([d, bar[0], bar[1]])
        bar_before = bar
    return answer
