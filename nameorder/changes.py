"""How the name of a set changes from day to day."""

from nameorder.kept import act_day, name_day
from nameorder.precedence import name_of_set


def days_of_change(kept):
    """The days at which a name comes out or there is an act: at all others the order is that of the day before."""
    name_days = [name_day(kept, name) for name in kept.names.values()]
    act_days = [act_day(kept, act) for act in kept.acts.values()]
    return sorted(set(name_days + act_days))


def history(kept, wanted):
    """A day and a name for each change of the name of the set wanted."""
    changes = []
    last = 0
    for d in days_of_change(kept):
        key = name_of_set(kept, d, wanted)
        if key != last:
            changes.extend([d, key])
            last = key
    return changes
