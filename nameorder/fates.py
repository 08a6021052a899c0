"""What has become of an act at a day, and the ring that it would close."""

from nameorder.bounds import ASIDE, RESTORE
from nameorder.kept import act_day
from nameorder.locking import asked_acts, hindrance, lock, locked_acts
from nameorder.standing import acts_of_standing, latest_act

LOCKED = 0
TOO_LATE = 1
CLOSES_RING = 5
LATEST = 0
OVERTAKEN = 6


def fate_of_one(kept, act, d):
    """The fate of an act that sets aside or restores a name."""
    if act_day(kept, act) > d:
        return TOO_LATE
    latest = latest_act(kept, acts_of_standing(kept, act.a, d))
    return LATEST if latest.key == act.key else OVERTAKEN


def fate_of_two(kept, act, d):
    """The fate of an act that sets a name over another one."""
    hindered_by = hindrance(kept, act, d)
    if hindered_by > 0:
        return hindered_by
    locked_keys = [locked.key for locked in locked_acts(kept, d)]
    return LOCKED if act.key in locked_keys else CLOSES_RING


def fate(kept, act, d):
    if act.kind in (ASIDE, RESTORE):
        return fate_of_one(kept, act, d)
    return fate_of_two(kept, act, d)


def locked_before(kept, act, d):
    """The locked acts that were asked before an act which is asked at the day d."""
    asked = asked_acts(kept, d)
    asked_keys = [other.key for other in asked]
    return lock(asked[:asked_keys.index(act.key)])


def fewest_steps(acts, goal):
    """For each name that leads to goal by the acts, and for goal: the fewest acts by which it does."""
    steps = {goal: 0}
    reached = [goal]
    place = 0
    while place < len(reached):
        lower = reached[place]
        for act in acts:
            if act.b == lower and act.a not in steps:
                steps[act.a] = steps[lower] + 1
                reached.append(act.a)
        place += 1
    return steps


def shortest_way(acts, start, goal):
    """The keys of the fewest acts that lead from start to goal; of those as few, the least keys."""
    steps = fewest_steps(acts, goal)
    nearing = [act for act in acts if act.b in steps and steps[act.a] == steps[act.b] + 1]
    way = []
    upper = start
    while upper != goal:
        step = min([act for act in nearing if act.a == upper], key=lambda act: act.key)
        way.append(step.key)
        upper = step.b
    return way


def ring(kept, act, d):
    """The keys of the locked acts with which an act would close a ring at the day d."""
    return shortest_way(locked_before(kept, act, d), act.b, act.a)
