"""The calls whatIf and unite, which ask what would be barred if something were moved."""

from namebars.bars import NO_BAR
from namebars.bars import bar_of
from namebars.bars import species_bar
from namebars.book import Act
from namebars.checks import refuse_two_at
from namebars.kinds import SINK
from namebars.refusals import BOTH_THE_SAME
from namebars.refusals import NO_REFUSAL
from namebars.timeline import Timeline


def ask_what_if(book, call):
    d = call.numbers[0]
    a = call.numbers[1]
    g = call.numbers[2]
    refusal = refuse_two_at(d, a, book.species, g, book.genera)
    if refusal != NO_REFUSAL:
        return [refusal]
    timeline = Timeline(book, book.acts)
    home = timeline.at_day(d).head(g)
    return [0] + list(species_bar(timeline, d, home, book.species[a]))


def united(book, d, a, b):
    """The times up to day d as they would be, were a sunk into b by the last act of that day."""
    past = [act for act in book.acts if act.day <= d]
    # That act is told to nobody and lies in its place already: it needs neither a key nor a work.
    return Timeline(book, past + [Act(0, SINK, 0, d, a, b)])


def newly_barred(book, d, now, then):
    """For each species name that's barred then and not now: its key, and that of what would bar it."""
    found = []
    for name in now.at_day(d).names_in_order(list(book.species.values())):
        bar = bar_of(then, d, name)
        if bar != NO_BAR and bar_of(now, d, name) == NO_BAR:
            found.extend([name.key, bar[1]])
    return found


def ask_unite(book, call):
    d = call.numbers[0]
    a = call.numbers[1]
    b = call.numbers[2]
    refusal = refuse_two_at(d, a, book.genera, b, book.genera)
    if refusal != NO_REFUSAL:
        return [refusal]
    if a == b:
        return [BOTH_THE_SAME]
    return [0] + newly_barred(book, d, Timeline(book, book.acts), united(book, d, a, b))
