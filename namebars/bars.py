"""What bars a name, as a pair: the kind of the bar, and the key of the name that bars."""

from namebars.kinds import LIFT
from namebars.kinds import REPLACED

NO_BAR = (0, 0)

SAME_TEXT = 1
SAME_FIRST_GENUS = 2
EARLY_REPLACEMENT = 3
SAME_HOME = 4

# From this day on a replacement no longer bars for ever.
FIRST_LATE_DAY = 95328


def are_alike(one, other, gender):
    return one.forms[gender] == other.forms[gender]


def is_able_to_bar(view, other, name):
    """What every kind of bar asks of the name that bars."""
    return view.counts(other) and view.is_before(other, name)


def pair_of(view, kind, barring):
    """Of several barring names, the one that is before all the others is told."""
    if len(barring) == 0:
        return NO_BAR
    return (kind, min(barring, key=view.precedence).key)


def namesakes_of(view, genus):
    """The genus names of the same text, itself among them."""
    return [other for other in view.book.genera.values() if other.letters == genus.letters]


def genus_bar(view, genus):
    barring = [other for other in namesakes_of(view, genus) if is_able_to_bar(view, other, genus)]
    return pair_of(view, SAME_TEXT, barring)


def does_bar_by_first_genus(view, other, name):
    if other.first_genus != name.first_genus:
        return False
    gender = view.book.genera[name.first_genus].gender
    return are_alike(other, name, gender) and is_able_to_bar(view, other, name)


def first_genus_bar(view, name):
    barring = [other for other in view.book.species.values() if does_bar_by_first_genus(view, other, name)]
    return pair_of(view, SAME_FIRST_GENUS, barring)


def does_bar_in_home(view, other, home, name):
    """Whether other bars name in the way of kind 4, if this is name's home."""
    if view.home(other) != home:
        return False
    gender = view.book.genera[home].gender
    return are_alike(other, name, gender) and is_able_to_bar(view, other, name)


def home_bar(view, home, name):
    barring = [other for other in view.book.species.values() if does_bar_in_home(view, other, home, name)]
    return pair_of(view, SAME_HOME, barring)


def holds_for_ever(timeline, act, name):
    """Whether a replacement was early and, on its own day, there was the bar that it tells."""
    if act.day >= FIRST_LATE_DAY or not name.is_out(act.day):
        return False
    view = timeline.at_day(act.day)
    return does_bar_in_home(view, view.book.species[act.b], view.home(name), name)


def replacement_bar(timeline, d, name):
    bar = NO_BAR
    for act in timeline.acts:
        if act.day > d or act.a != name.key:
            continue
        if act.kind == LIFT:
            bar = NO_BAR
        elif act.kind == REPLACED and bar == NO_BAR and holds_for_ever(timeline, act, name):
            bar = (EARLY_REPLACEMENT, act.b)
    return bar


def species_bar(timeline, d, home, name):
    """What bars a species name at day d, if this is its home."""
    view = timeline.at_day(d)
    bar = first_genus_bar(view, name)
    if bar == NO_BAR:
        bar = replacement_bar(timeline, d, name)
    if bar == NO_BAR:
        bar = home_bar(view, home, name)
    return bar


def bar_of(timeline, d, name):
    view = timeline.at_day(d)
    if name.key in view.book.genera:
        return genus_bar(view, name)
    return species_bar(timeline, d, view.home(name), name)


def is_usable(timeline, d, name):
    """Asked about names that are out."""
    return timeline.at_day(d).status(name) == 0 and bar_of(timeline, d, name) == NO_BAR
