"""Writes calls as lists of numbers, and splits what they answer."""

from namebars.desk import answers

LOW_KEY = 1
HIGH_KEY = 1000000000
LOW_DAY = 0
HIGH_DAY = 474814
LOW_PAGE = 1
HIGH_PAGE = 1000000
FAR = 1000000000000

WRONG_KEYS = (0, HIGH_KEY + 1, -1, -FAR, FAR)
WRONG_DAYS = (-1, HIGH_DAY + 1, -FAR, FAR)
WRONG_PAGES = (0, HIGH_PAGE + 1, -1, -FAR, FAR)


def row(text):
    """A text or a list of bytes as a row, with its length ahead."""
    signs = [ord(sign) for sign in text] if isinstance(text, str) else list(text)
    return [len(signs)] + signs


def work(key, day):
    return [0, key, day]


def genus(key, work=1, page=1, gender=0, t="Aus"):
    return [1, key, work, page, gender] + row(t)


def species(key, work=1, page=1, first_genus=1, forms=("niger", "nigra", "nigrum")):
    return [2, key, work, page, first_genus] + row(forms[0]) + row(forms[1]) + row(forms[2])


def place(key, work, a, b):
    return [3, key, work, a, b]


def sink(key, work, a, b):
    return [4, key, work, a, b]


def revive(key, work, a):
    return [5, key, work, a]


def status(key, work, a, x):
    return [6, key, work, a, x]


def advance(key, work, a, x):
    return [7, key, work, a, x]


def replaced(key, work, a, b):
    return [8, key, work, a, b]


def lift(key, work, a):
    return [9, key, work, a]


def what_status(d, a):
    return [10, d, a]


def precedence(d, a):
    return [11, d, a]


def joined(calls):
    return [number for call in calls for number in call]


def split(given):
    """The answers of each call, out of the one list that holds them with their lengths."""
    parts = []
    at = 0
    while at < len(given):
        end = at + 1 + given[at]
        if given[at] < 1 or end > len(given):
            raise AssertionError(f"wrong length {given[at]} at {at} of {given}")
        parts.append(given[at + 1:end])
        at = end
    return parts


def run(*calls):
    """One list of numbers for each call, in order."""
    parts = split(answers(joined(calls)))
    if len(parts) != len(calls):
        raise AssertionError(f"{len(calls)} calls, {len(parts)} answers")
    return parts


def after(before, *calls):
    """What these calls answer, behind calls that must all be taken."""
    given = run(*before, *calls)
    for call, answer in zip(before, given):
        if answer != [0]:
            raise AssertionError(f"{call} answered {answer}")
    return given[len(before):]
