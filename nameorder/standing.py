"""Which names stand at a day."""

from nameorder.bounds import ASIDE, RESTORE
from nameorder.kept import act_day, name_day


def acts_of_standing(kept, key, d):
    """The acts up to the day d that set the name of that key aside or restore it."""
    return [
        act for act in kept.acts.values()
        if act.a == key and act.kind in (ASIDE, RESTORE) and act_day(kept, act) <= d
    ]


def latest_act(kept, acts):
    """The latest of one or more acts."""
    return max(acts, key=lambda act: (act_day(kept, act), act.key))


def stands(kept, key, d):
    if key not in kept.names or name_day(kept, kept.names[key]) > d:
        return False
    acts = acts_of_standing(kept, key, d)
    return len(acts) == 0 or latest_act(kept, acts).kind == RESTORE
