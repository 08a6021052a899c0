"""Calls as lists of numbers, and their answers as a list for each call."""

from nameorder.registers import answers

LAST_DAY = 474814
GREATEST = 1000000000


def code(limit, works, authors, window, span):
    return [0, limit, works, authors, window, span]


def work(key, day, author=1):
    return [1, key, day, author]


def name(key, work_key, page=1):
    return [2, key, work_key, page]


def use(work_key, name_key):
    return [3, work_key, name_key]


def choice(key, work_key, a, b):
    return [4, key, work_key, a, b]


def reverse(key, work_key, a, b):
    return [5, key, work_key, a, b]


def rule(key, work_key, a, b):
    return [6, key, work_key, a, b]


def aside(key, work_key, a):
    return [7, key, work_key, a]


def restore(key, work_key, a):
    return [8, key, work_key, a]


def stands(d, key):
    return [9, d, key]


def order(d):
    return [10, d]


def first(d, s):
    return [11, d, len(s)] + list(s)


def why(d, s):
    return [12, d, len(s)] + list(s)


def check(d, s, claimed):
    return [13, d, len(s)] + list(s) + [len(claimed)] + list(claimed)


def before(d, a, b):
    return [14, d, a, b]


def fate(d, key):
    return [15, d, key]


def ring(d, key):
    return [16, d, key]


def tally(key):
    return [17, key]


def history(s):
    return [18, len(s)] + list(s)


def locked(d):
    return [19, d]


def told():
    return [20]


def joined(calls):
    return [number for call in calls for number in call]


def parted(numbers):
    """The answer of each call, without the counts before them."""
    parts = []
    place = 0
    while place < len(numbers):
        end = place + 1 + numbers[place]
        if end > len(numbers):
            raise AssertionError(f"a count leads past the end of {numbers}")
        parts.append(numbers[place + 1:end])
        place = end
    return parts


def run(calls):
    parts = parted(answers(joined(calls)))
    if len(parts) != len(calls):
        raise AssertionError(f"{len(calls)} calls, {len(parts)} answers")
    return parts


def run_told(telling, asked):
    """The answers of the calls asked, behind calls that tell something and must all be taken."""
    parts = run(list(telling) + list(asked))
    for call, part in zip(telling, parts):
        if part != [0]:
            raise AssertionError(f"{call} was answered {part}")
    return parts[len(telling):]


def order_at(telling, d):
    """The order at the day d behind calls that must all be taken."""
    part = run_told(telling, [order(d)])[0]
    if part[0] != 0:
        raise AssertionError(f"order was answered {part}")
    return part[1:]
