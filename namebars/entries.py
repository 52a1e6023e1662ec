"""The calls work, genus and species, which keep what acts speak of."""

from namebars.book import GenusName
from namebars.book import SpeciesName
from namebars.letters import is_form
from namebars.letters import is_genus_text
from namebars.refusals import BAD_KEY
from namebars.refusals import FULL
from namebars.refusals import KEY_TAKEN
from namebars.refusals import NO_REFUSAL
from namebars.refusals import NOT_A_TEXT
from namebars.refusals import NOT_THERE
from namebars.refusals import OUT_OF_RANGE
from namebars.refusals import is_day
from namebars.refusals import is_key
from namebars.refusals import is_page

MOST_WORKS = 60
MOST_GENERA = 24
MOST_SPECIES = 40

GENDERS = (0, 1, 2)


def refuse_work(book, key, day):
    if not is_key(key):
        return BAD_KEY
    if not is_day(day):
        return OUT_OF_RANGE
    if key in book.work_days:
        return KEY_TAKEN
    if len(book.work_days) >= MOST_WORKS:
        return FULL
    return NO_REFUSAL


def add_work(book, call):
    key = call.numbers[0]
    day = call.numbers[1]
    refusal = refuse_work(book, key, day)
    if refusal == NO_REFUSAL:
        book.keep_work(key, day)
    return [refusal]


def refuse_genus(book, key, work, page, gender, letters):
    if not is_key(key):
        return BAD_KEY
    if not is_page(page) or gender not in GENDERS:
        return OUT_OF_RANGE
    if not is_genus_text(letters):
        return NOT_A_TEXT
    if book.has_name(key):
        return KEY_TAKEN
    if work not in book.work_days:
        return NOT_THERE
    if len(book.genera) >= MOST_GENERA:
        return FULL
    return NO_REFUSAL


def add_genus(book, call):
    key = call.numbers[0]
    work = call.numbers[1]
    page = call.numbers[2]
    gender = call.numbers[3]
    letters = call.rows[0]
    refusal = refuse_genus(book, key, work, page, gender, letters)
    if refusal == NO_REFUSAL:
        book.keep_genus(GenusName(key, work, book.work_days[work], page, gender, letters))
    return [refusal]


def refuse_species(book, key, work, page, first_genus, forms):
    if not is_key(key):
        return BAD_KEY
    if not is_page(page):
        return OUT_OF_RANGE
    if not all([is_form(form) for form in forms]):
        return NOT_A_TEXT
    if book.has_name(key):
        return KEY_TAKEN
    if work not in book.work_days or first_genus not in book.genera:
        return NOT_THERE
    if len(book.species) >= MOST_SPECIES:
        return FULL
    return NO_REFUSAL


def add_species(book, call):
    key = call.numbers[0]
    work = call.numbers[1]
    page = call.numbers[2]
    first_genus = call.numbers[3]
    forms = call.rows
    refusal = refuse_species(book, key, work, page, first_genus, forms)
    if refusal == NO_REFUSAL:
        book.keep_species(SpeciesName(key, work, book.work_days[work], page, first_genus, forms))
    return [refusal]
