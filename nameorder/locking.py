"""Which acts that set a name over another one count at a day."""

from nameorder.bounds import CHOICE, REVERSAL, RULING
from nameorder.earning import is_earned
from nameorder.kept import act_day, name_day
from nameorder.standing import stands


def hindrance(kept, act, d):
    """The number of what hinders an act of kinds 1 to 3 at the day d, or 0."""
    if act_day(kept, act) > d:
        return 1
    if not stands(kept, act.a, d) or not stands(kept, act.b, d):
        return 2
    if act.kind == CHOICE and name_day(kept, kept.names[act.a]) != name_day(kept, kept.names[act.b]):
        return 3
    if act.kind == REVERSAL and not is_earned(kept, act):
        return 4
    return 0


def asked_acts(kept, d):
    """The acts that aren't hindered at the day d, in the order in which they are asked."""
    asked = [
        act for act in kept.acts.values()
        if act.kind in (CHOICE, REVERSAL, RULING) and hindrance(kept, act, d) == 0
    ]
    # Rulings go first and choices last, so the greater kind goes before the lesser one.
    return sorted(asked, key=lambda act: (-act.kind, act_day(kept, act), act.key))


def leads(lower_names, start, goal):
    """Whether start leads to another name, goal; lower_names holds the names set straight under each name."""
    reached = {start: True}
    waiting = [start]
    while len(waiting) > 0:
        upper = waiting.pop()
        for lower in lower_names.get(upper, []):
            if lower not in reached:
                reached[lower] = True
                waiting.append(lower)
    return goal in reached


def lock(asked):
    """Those of the acts that are locked where they are asked one after another."""
    locked = []
    lower_names = {}
    for act in asked:
        if not leads(lower_names, act.b, act.a):
            locked.append(act)
            lower_names.setdefault(act.a, []).append(act.b)
    return locked


def locked_acts(kept, d):
    """The acts locked at the day d, in the order in which they were asked."""
    return lock(asked_acts(kept, d))
