"""The order of precedence at a day, and the name of a set."""

from nameorder.kept import moment
from nameorder.locking import locked_acts
from nameorder.standing import stands


def standing_by_age(kept, d):
    """The keys of the names that stand at the day d, the oldest first."""
    standing = [key for key in kept.names if stands(kept, key, d)]
    return sorted(standing, key=lambda key: moment(kept, kept.names[key]))


def names_above(locked):
    """For each name under others by locked acts: these others."""
    above = {}
    for act in locked:
        above.setdefault(act.b, []).append(act.a)
    return above


def is_held_back(key, waiting, above):
    """Whether a locked act sets a name that still waits over the name of that key."""
    return any([upper in waiting for upper in above.get(key, [])])


def precedence(kept, d):
    """The keys of the names that stand at the day d, in the order of precedence."""
    above = names_above(locked_acts(kept, d))
    waiting = standing_by_age(kept, d)
    placed = []
    while len(waiting) > 0:
        place = 0
        # Locked acts never run in a ring, so some waiting name is always free.
        while is_held_back(waiting[place], waiting, above):
            place += 1
        placed.append(waiting.pop(place))
    return placed


def way_to_name(kept, d, wanted):
    """The order at the day d up to the name of the set wanted, or nothing where no name of it stands."""
    way = []
    for key in precedence(kept, d):
        way.append(key)
        if key in wanted:
            return way
    return []


def name_of_set(kept, d, wanted):
    way = way_to_name(kept, d, wanted)
    return way[-1] if len(way) > 0 else 0


def comes_before(kept, d, a, b):
    """Whether a comes before b in the order at the day d; both stand then."""
    placed = precedence(kept, d)
    return placed.index(a) < placed.index(b)
