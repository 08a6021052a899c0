"""Which acts that set a name over another one count at a day."""

from nameorder.bounds import CHOICE, REVERSAL, RULING
from nameorder.kept import act_day, moment, name_day, works_using
from nameorder.standing import stands


def count_authors(works):
    return len(set([work.author for work in works]))


def day_span(works):
    if len(works) == 0:
        return 0
    days = [work.day for work in works]
    return max(days) - min(days)


def is_used_enough(kept, key, last_day):
    """Whether the works of the window that ends on last_day use the name as much as the code asks."""
    code = kept.code
    works = works_using(kept, key, last_day - code.window + 1, last_day)
    return len(works) >= code.works and count_authors(works) >= code.authors and day_span(works) >= code.span


def is_earned(kept, reversal):
    day = act_day(kept, reversal)
    if moment(kept, kept.names[reversal.a]) < moment(kept, kept.names[reversal.b]):
        return False
    if len(works_using(kept, reversal.b, kept.code.limit, day)) > 0:
        return False
    return is_used_enough(kept, reversal.a, day)


def hindrance(kept, act, d):
    """The number of what hinders an act of kinds 1 to 3 at the day d, or 0."""
    if act_day(kept, act) > d:
        return 1
    if not stands(kept, act.a, d) or not stands(kept, act.b, d):
        return 2
    if act.kind == CHOICE and name_day(kept, kept.names[act.a]) != name_day(kept, kept.names[act.b]):
        return 3
    if act.kind == REVERSAL and not is_earned(kept, act):
        return 4
    return 0


def asked_acts(kept, d):
    """The acts that aren't hindered at the day d, in the order in which they are asked."""
    asked = [
        act for act in kept.acts.values()
        if act.kind in (CHOICE, REVERSAL, RULING) and hindrance(kept, act, d) == 0
    ]
    # Rulings go first and choices last, so the greater kind goes before the lesser one.
    return sorted(asked, key=lambda act: (-act.kind, act_day(kept, act), act.key))


def leads(locked, start, goal):
    """Whether the name start leads to another name, goal, by the locked acts."""
    reached = [start]
    place = 0
    while place < len(reached):
        for act in locked:
            if act.a == reached[place] and act.b not in reached:
                reached.append(act.b)
        place += 1
    return goal in reached


def locked_acts(kept, d):
    """The acts locked at the day d, in the order in which they were asked."""
    locked = []
    for act in asked_acts(kept, d):
        if not leads(locked, act.b, act.a):
            locked.append(act)
    return locked
