"""Answers calls: the one door of the program."""

from namebars.acts import add_act
from namebars.book import Book
from namebars.entries import add_genus
from namebars.entries import add_species
from namebars.entries import add_work
from namebars.questions import ask_precedence
from namebars.questions import ask_status
from namebars.reader import Reader

# The calls 3 to 9 keep acts of the kinds 1 to 7.
FIRST_ACT_CALL = 3
LAST_ACT_CALL = 9
FROM_CALL_TO_KIND = 2


def answer_entry(book, call):
    if call.number == 0:
        return add_work(book, call)
    if call.number == 1:
        return add_genus(book, call)
    return add_species(book, call)


def answer_question(book, call):
    if call.number == 10:
        return ask_status(book, call)
    return ask_precedence(book, call)


def answer_call(book, call):
    """The numbers that one call answers, without how many they are."""
    if call.number < FIRST_ACT_CALL:
        return answer_entry(book, call)
    if call.number <= LAST_ACT_CALL:
        return add_act(book, call.number - FROM_CALL_TO_KIND, call)
    return answer_question(book, call)


def answers(calls):
    """Answers a list of calls on a new book, each with how many numbers it answers ahead."""
    book = Book()
    reader = Reader(calls)
    given = []
    while not reader.is_done():
        answer = answer_call(book, reader.take_call())
        given.append(len(answer))
        given.extend(answer)
    return given
