"""Answers calls: the one door of the program."""

from namebars.acts import add_act
from namebars.book import Book
from namebars.checks import refuse_name_at
from namebars.entries import add_genus
from namebars.entries import add_species
from namebars.entries import add_work
from namebars.forecasts import ask_unite
from namebars.forecasts import ask_what_if
from namebars.inventory import tell_all
from namebars.questions import ask_bar
from namebars.questions import ask_group
from namebars.questions import ask_home
from namebars.questions import ask_homonyms
from namebars.questions import ask_precedence
from namebars.questions import ask_status
from namebars.questions import ask_text
from namebars.questions import ask_usable
from namebars.reader import Reader
from namebars.refusals import NO_REFUSAL
from namebars.surveys import ask_barred
from namebars.surveys import ask_first
from namebars.surveys import ask_history
from namebars.timeline import Timeline

# The calls 3 to 9 keep acts of the kinds 1 to 7.
FIRST_ACT_CALL = 3
LAST_ACT_CALL = 9
FROM_CALL_TO_KIND = 2

# The calls from behind the acts to this one ask about one name at a day.
LAST_NAME_CALL = 17


def answer_entry(book, call):
    if call.number == 0:
        return add_work(book, call)
    if call.number == 1:
        return add_genus(book, call)
    return add_species(book, call)


def ask_about_name(number, timeline, d, name):
    if number == 10:
        return ask_status(timeline, d, name)
    if number == 11:
        return ask_precedence(timeline, d, name)
    if number == 12:
        return ask_usable(timeline, d, name)
    if number == 13:
        return ask_bar(timeline, d, name)
    if number == 14:
        return ask_home(timeline, d, name)
    if number == 15:
        return ask_text(timeline, d, name)
    if number == 16:
        return ask_group(timeline, d, name)
    return ask_homonyms(timeline, d, name)


def answer_about_name(book, call):
    d = call.numbers[0]
    a = call.numbers[1]
    refusal = refuse_name_at(book, d, a)
    if refusal != NO_REFUSAL:
        return [refusal]
    return ask_about_name(call.number, Timeline(book, book.acts), d, book.find_name(a))


def answer_question(book, call):
    if call.number == 18:
        return ask_what_if(book, call)
    if call.number == 19:
        return ask_unite(book, call)
    if call.number == 20:
        return ask_barred(book, call)
    if call.number == 21:
        return ask_first(book, call)
    if call.number == 22:
        return ask_history(book, call)
    return tell_all(book)


def answer_call(book, call):
    """The numbers that one call answers, without how many they are."""
    if call.number < FIRST_ACT_CALL:
        return answer_entry(book, call)
    if call.number <= LAST_ACT_CALL:
        return add_act(book, call.number - FROM_CALL_TO_KIND, call)
    if call.number <= LAST_NAME_CALL:
        return answer_about_name(book, call)
    return answer_question(book, call)


def answers(calls):
    """Answers a list of calls on a new book, each with how many numbers it answers ahead."""
    book = Book()
    reader = Reader(calls)
    given = []
    while not reader.is_done():
        answer = answer_call(book, reader.take_call())
        given.append(len(answer))
        given.extend(answer)
    return given
