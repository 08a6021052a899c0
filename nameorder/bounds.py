"""The bounds of what is kept, the kinds of acts, and the refusals."""

LAST_DAY = 474814
GREATEST_KEY = 1000000000
GREATEST_PAGE = 1000000
GREATEST_DEMAND = 1000

MOST_WORKS = 80
MOST_NAMES = 40
MOST_USES = 200
MOST_ACTS = 60

CHOICE = 1
REVERSAL = 2
RULING = 3
ASIDE = 4
RESTORE = 5

DONE = 0
BAD_KEY = -4
KNOWN_ALREADY = -5
UNKNOWN = -6
FULL = -8
OUT_OF_BOUNDS = -9
SAME_NAMES = -10
NOT_OF_THAT_SORT = -14
TOO_EARLY = -15
TOO_LATE_FOR_CODE = -16


def is_day(number):
    return 0 <= number <= LAST_DAY


def is_key(number):
    return 1 <= number <= GREATEST_KEY


def is_page(number):
    return 1 <= number <= GREATEST_PAGE


def is_demand(number):
    return 0 <= number <= GREATEST_DEMAND


def is_window(number):
    return 1 <= number <= LAST_DAY + 1
