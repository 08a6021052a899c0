"""The order of precedence at a day."""

from nameorder.kept import moment
from nameorder.locking import locked_acts
from nameorder.standing import stands


def standing_by_age(kept, d):
    """The keys of the names that stand at the day d, the oldest first."""
    standing = [key for key in kept.names if stands(kept, key, d)]
    return sorted(standing, key=lambda key: moment(kept, kept.names[key]))


def is_held_back(key, waiting, locked):
    """Whether a locked act sets a name that still waits over the name of that key."""
    return any([act.b == key and act.a in waiting for act in locked])


def precedence(kept, d):
    """The keys of the names that stand at the day d, in the order of precedence."""
    locked = locked_acts(kept, d)
    waiting = standing_by_age(kept, d)
    placed = []
    while len(waiting) > 0:
        # Locked acts never run in a ring, so some waiting name is always free.
        free = [key for key in waiting if not is_held_back(key, waiting, locked)]
        placed.append(free[0])
        waiting.remove(free[0])
    return placed
