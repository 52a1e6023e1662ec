"""Writes calls as lists of numbers, and splits what they answer."""

from namebars.desk import answers

LOW_KEY = 1
HIGH_KEY = 1000000000
LOW_DAY = 0
HIGH_DAY = 474814
LOW_PAGE = 1
HIGH_PAGE = 1000000
FAR = 1000000000000

MASCULINE = 0
FEMININE = 1
NEUTER = 2

# A work for each tenth day: work 3 is of day 30.
TENTH_DAYS = [[0, key, 10 * key] for key in range(1, 10)]

WRONG_KEYS = (0, HIGH_KEY + 1, -1, -FAR, FAR)
WRONG_DAYS = (-1, HIGH_DAY + 1, -FAR, FAR)
WRONG_PAGES = (0, HIGH_PAGE + 1, -1, -FAR, FAR)


def signs(told):
    """The bytes of a text; a list stays as it is."""
    return [ord(sign) for sign in told] if isinstance(told, str) else list(told)


def row(told):
    """A text or a list of numbers as a row, with its length ahead."""
    return [len(told)] + signs(told)


def work(key, day):
    return [0, key, day]


def genus(key, work=1, page=1, gender=0, t="Aus"):
    return [1, key, work, page, gender] + row(t)


def species(key, work=1, page=1, first_genus=1, forms=("niger", "nigra", "nigrum")):
    return [2, key, work, page, first_genus] + row(forms[0]) + row(forms[1]) + row(forms[2])


def place(key, work, a, b):
    return [3, key, work, a, b]


def sink(key, work, a, b):
    return [4, key, work, a, b]


def revive(key, work, a):
    return [5, key, work, a]


def status(key, work, a, x):
    return [6, key, work, a, x]


def advance(key, work, a, x):
    return [7, key, work, a, x]


def replaced(key, work, a, b):
    return [8, key, work, a, b]


def lift(key, work, a):
    return [9, key, work, a]


def what_status(d, a):
    return [10, d, a]


def precedence(d, a):
    return [11, d, a]


def usable(d, a):
    return [12, d, a]


def bar(d, a):
    return [13, d, a]


def home(d, a):
    return [14, d, a]


def text(d, a):
    return [15, d, a]


def group(d, g):
    return [16, d, g]


def homonyms(d, a):
    return [17, d, a]


def what_if(d, a, g):
    return [18, d, a, g]


def unite(d, a, b):
    return [19, d, a, b]


def barred(d):
    return [20, d]


def first(d, s):
    return [21, d] + row(s)


def history(a):
    return [22, a]


def told():
    return [23]


def joined(calls):
    return [number for call in calls for number in call]


def split(given):
    """The answers of each call, out of the one list that holds them with their lengths."""
    parts = []
    at = 0
    while at < len(given):
        end = at + 1 + given[at]
        if given[at] < 1 or end > len(given):
            raise AssertionError(f"wrong length {given[at]} at {at} of {given}")
        parts.append(given[at + 1:end])
        at = end
    return parts


def run(*calls):
    """One list of numbers for each call, in order."""
    parts = split(answers(joined(calls)))
    if len(parts) != len(calls):
        raise AssertionError(f"{len(calls)} calls, {len(parts)} answers")
    return parts


def after(before, *calls):
    """What these calls answer, behind calls that must all be taken."""
    given = run(*before, *calls)
    for call, answer in zip(before, given):
        if answer != [0]:
            raise AssertionError(f"{call} answered {answer}")
    return given[len(before):]


def asked(before, *calls):
    """As after, but for calls that are answered: without the 0 ahead."""
    given = after(before, *calls)
    for call, answer in zip(calls, given):
        if answer[0] != 0:
            raise AssertionError(f"{call} answered {answer}")
    return [answer[1:] for answer in given]


def bars_of(before, a, days):
    """What bars a at each of these days, as pairs."""
    return [tuple(answer) for answer in asked(before, *[bar(d, a) for d in days])]
