"""Which reversals are earned; the day that is asked about doesn't matter here."""

from nameorder.kept import act_day, moment, works_using


def count_authors(works):
    return len(set([work.author for work in works]))


def day_span(works):
    if len(works) == 0:
        return 0
    days = [work.day for work in works]
    return max(days) - min(days)


def tally(kept, reversal):
    """How many works use b from limit on; of the works of the window that use a: their number, authors and span."""
    code = kept.code
    day = act_day(kept, reversal)
    using_b = works_using(kept, reversal.b, code.limit, day)
    using_a = works_using(kept, reversal.a, day - code.window + 1, day)
    return [len(using_b), len(using_a), count_authors(using_a), day_span(using_a)]


def is_used_enough(code, counts):
    return counts[1] >= code.works and counts[2] >= code.authors and counts[3] >= code.span


def is_earned(kept, reversal):
    if moment(kept, kept.names[reversal.a]) < moment(kept, kept.names[reversal.b]):
        return False
    counts = tally(kept, reversal)
    return counts[0] == 0 and is_used_enough(kept.code, counts)
