"""The calls whatStatus to homonyms, which ask about one name that is out at a day."""

from namebars.bars import are_alike
from namebars.bars import bar_of
from namebars.bars import is_usable
from namebars.bars import namesakes_of
from namebars.refusals import NOT_THERE

BLANK = 32


def ask_status(timeline, d, name):
    return [timeline.at_day(d).status(name)]


def ask_precedence(timeline, d, name):
    return [0] + timeline.at_day(d).precedence(name)


def ask_usable(timeline, d, name):
    return [1 if is_usable(timeline, d, name) else 0]


def ask_bar(timeline, d, name):
    return [0] + list(bar_of(timeline, d, name))


def ask_home(timeline, d, name):
    view = timeline.at_day(d)
    if name.key in view.book.genera:
        return [0, name.key, view.head(name.key)]
    return [0, view.placed_in(name), view.home(name)]


def ask_text(timeline, d, name):
    view = timeline.at_day(d)
    if name.key in view.book.genera:
        return [0] + name.letters
    home = view.book.genera[view.home(name)]
    return [0] + home.letters + [BLANK] + name.forms[home.gender]


def keys_in_order(view, names):
    return [name.key for name in view.names_in_order(names)]


def species_at_home(view, home):
    return [name for name in view.book.species.values() if view.home(name) == home]


def ask_group(timeline, d, name):
    view = timeline.at_day(d)
    if name.key not in view.book.genera:
        return [NOT_THERE]
    return [0] + keys_in_order(view, species_at_home(view, view.head(name.key)))


def species_homonyms(view, name):
    home = view.home(name)
    gender = view.book.genera[home].gender
    return [other for other in species_at_home(view, home) if are_alike(other, name, gender)]


def ask_homonyms(timeline, d, name):
    view = timeline.at_day(d)
    if name.key in view.book.genera:
        return [0] + keys_in_order(view, namesakes_of(view, name))
    return [0] + keys_in_order(view, species_homonyms(view, name))
