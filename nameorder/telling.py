"""The calls that tell something: each keeps it and gives 0, or gives a refusal and changes nothing."""

from nameorder.bounds import (
    BAD_KEY, DONE, FULL, KNOWN_ALREADY, MOST_ACTS, MOST_NAMES, MOST_USES, MOST_WORKS, OUT_OF_BOUNDS, SAME_NAMES,
    TOO_EARLY, TOO_LATE_FOR_CODE, UNKNOWN, is_day, is_demand, is_key, is_page, is_window,
)
from nameorder.kept import Act, Code, Name, Work, name_day


def is_code(limit, works, authors, window, span):
    # The span, a number of days, has the bounds of a day.
    return is_day(limit) and is_demand(works) and is_demand(authors) and is_window(window) and is_day(span)


def tell_code(kept, limit, works, authors, window, span):
    if not is_code(limit, works, authors, window, span):
        return OUT_OF_BOUNDS
    if len(kept.works) > 0:
        return TOO_LATE_FOR_CODE
    kept.code = Code(limit, works, authors, window, span)
    return DONE


def work_refusal(kept, key, day, author):
    if not is_key(key):
        return BAD_KEY
    # An author's number has the bounds of a key.
    if not is_day(day) or not is_key(author):
        return OUT_OF_BOUNDS
    if key in kept.works:
        return KNOWN_ALREADY
    if len(kept.works) >= MOST_WORKS:
        return FULL
    return DONE


def tell_work(kept, key, day, author):
    refusal = work_refusal(kept, key, day, author)
    if refusal == DONE:
        kept.works[key] = Work(key, day, author)
    return refusal


def name_refusal(kept, key, work, page):
    if not is_key(key):
        return BAD_KEY
    if not is_page(page):
        return OUT_OF_BOUNDS
    if key in kept.names:
        return KNOWN_ALREADY
    if work not in kept.works:
        return UNKNOWN
    if len(kept.names) >= MOST_NAMES:
        return FULL
    return DONE


def tell_name(kept, key, work, page):
    refusal = name_refusal(kept, key, work, page)
    if refusal == DONE:
        kept.names[key] = Name(key, work, page)
    return refusal


def use_refusal(kept, work, name):
    if work not in kept.works or name not in kept.names:
        return UNKNOWN
    if kept.works[work].day < name_day(kept, kept.names[name]):
        return TOO_EARLY
    if (work, name) in kept.uses:
        return KNOWN_ALREADY
    if len(kept.uses) >= MOST_USES:
        return FULL
    return DONE


def tell_use(kept, work, name):
    refusal = use_refusal(kept, work, name)
    if refusal == DONE:
        kept.uses[(work, name)] = True
    return refusal


def act_refusal(kept, key, work, names):
    """The refusal of an act about the one or two names of that list."""
    if not is_key(key):
        return BAD_KEY
    if key in kept.acts:
        return KNOWN_ALREADY
    if work not in kept.works or not all([name in kept.names for name in names]):
        return UNKNOWN
    if len(names) == 2 and names[0] == names[1]:
        return SAME_NAMES
    if len(kept.acts) >= MOST_ACTS:
        return FULL
    return DONE


def tell_act_of_two(kept, kind, key, work, a, b):
    refusal = act_refusal(kept, key, work, [a, b])
    if refusal == DONE:
        kept.acts[key] = Act(key, kind, work, a, b)
    return refusal


def tell_act_of_one(kept, kind, key, work, a):
    refusal = act_refusal(kept, key, work, [a])
    if refusal == DONE:
        kept.acts[key] = Act(key, kind, work, a, 0)
    return refusal
