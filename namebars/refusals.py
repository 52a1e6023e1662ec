"""The numbers that refuse a call, and the ranges that more than one call looks at."""

NO_REFUSAL = 0
NOT_A_TEXT = -1
BAD_KEY = -4
KEY_TAKEN = -5
NOT_THERE = -6
FULL = -8
OUT_OF_RANGE = -9
BOTH_THE_SAME = -10

LAST_KEY = 1000000000
LAST_DAY = 474814
LAST_PAGE = 1000000


def is_key(number):
    return 1 <= number <= LAST_KEY


def is_day(number):
    return 0 <= number <= LAST_DAY


def is_page(number):
    return 1 <= number <= LAST_PAGE
