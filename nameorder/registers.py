"""The calls on one object, one behind another, and their answers."""

from nameorder.account import account
from nameorder.bounds import (
    ASIDE, CHOICE, NOT_OF_THAT_SORT, OUT_OF_BOUNDS, RESTORE, REVERSAL, RULING, UNKNOWN, is_day,
)
from nameorder.changes import history
from nameorder.earning import is_earned, tally
from nameorder.fates import CLOSES_RING, fate, ring
from nameorder.kept import Kept
from nameorder.locking import locked_acts
from nameorder.precedence import comes_before, name_of_set, precedence, way_to_name
from nameorder.standing import stands
from nameorder.telling import tell_act_of_one, tell_act_of_two, tell_code, tell_name, tell_use, tell_work


def answer_code(kept, given):
    return [tell_code(kept, given[0], given[1], given[2], given[3], given[4])]


def answer_work(kept, given):
    return [tell_work(kept, given[0], given[1], given[2])]


def answer_name(kept, given):
    return [tell_name(kept, given[0], given[1], given[2])]


def answer_use(kept, given):
    return [tell_use(kept, given[0], given[1])]


def answer_choice(kept, given):
    return [tell_act_of_two(kept, CHOICE, given[0], given[1], given[2], given[3])]


def answer_reverse(kept, given):
    return [tell_act_of_two(kept, REVERSAL, given[0], given[1], given[2], given[3])]


def answer_rule(kept, given):
    return [tell_act_of_two(kept, RULING, given[0], given[1], given[2], given[3])]


def answer_aside(kept, given):
    return [tell_act_of_one(kept, ASIDE, given[0], given[1], given[2])]


def answer_restore(kept, given):
    return [tell_act_of_one(kept, RESTORE, given[0], given[1], given[2])]


def answer_stands(kept, given):
    return [1 if stands(kept, given[1], given[0]) else 0]


def answer_order(kept, given):
    return [0] + precedence(kept, given[0])


def answer_first(kept, given):
    return [name_of_set(kept, given[0], given[1])]


def answer_why(kept, given):
    return [0] + way_to_name(kept, given[0], given[1])


def answer_check(kept, given):
    claimed = given[2]
    return [1 if len(claimed) > 0 and claimed == way_to_name(kept, given[0], given[1]) else 0]


def answer_before(kept, given):
    d = given[0]
    if not stands(kept, given[1], d) or not stands(kept, given[2], d):
        return [UNKNOWN]
    return [1 if comes_before(kept, d, given[1], given[2]) else 0]


def answer_fate(kept, given):
    if given[1] not in kept.acts:
        return [UNKNOWN]
    return [fate(kept, kept.acts[given[1]], given[0])]


def answer_ring(kept, given):
    if given[1] not in kept.acts:
        return [UNKNOWN]
    act = kept.acts[given[1]]
    if fate(kept, act, given[0]) != CLOSES_RING:
        return [NOT_OF_THAT_SORT]
    return [0] + ring(kept, act, given[0])


def answer_tally(kept, given):
    if given[0] not in kept.acts:
        return [UNKNOWN]
    act = kept.acts[given[0]]
    if act.kind != REVERSAL:
        return [NOT_OF_THAT_SORT]
    return [0] + tally(kept, act) + [1 if is_earned(kept, act) else 0]


def answer_history(kept, given):
    return [0] + history(kept, given[0])


def answer_locked(kept, given):
    return [0] + [act.key for act in locked_acts(kept, given[0])]


def answer_told(kept, given):
    return [0] + account(kept)


# By the number of a call: how many whole numbers it has, how many rows behind them,
# whether its first number is the day d, and what answers it.
CALLS = (
    (5, 0, False, answer_code),
    (3, 0, False, answer_work),
    (3, 0, False, answer_name),
    (2, 0, False, answer_use),
    (4, 0, False, answer_choice),
    (4, 0, False, answer_reverse),
    (4, 0, False, answer_rule),
    (3, 0, False, answer_aside),
    (3, 0, False, answer_restore),
    (2, 0, True, answer_stands),
    (1, 0, True, answer_order),
    (1, 1, True, answer_first),
    (1, 1, True, answer_why),
    (1, 2, True, answer_check),
    (3, 0, True, answer_before),
    (2, 0, True, answer_fate),
    (2, 0, True, answer_ring),
    (1, 0, False, answer_tally),
    (0, 1, False, answer_history),
    (1, 0, True, answer_locked),
    (0, 0, False, answer_told),
)


def answer_one(kept, number, given):
    """The answer of the call of that number; given holds its whole numbers and then its rows."""
    form = CALLS[number]
    if form[2] and not is_day(given[0]):
        return [OUT_OF_BOUNDS]
    answerer = form[3]
    return answerer(kept, given)


def answers(calls):
    """For each call in order: how many numbers are answered, then these."""
    kept = Kept()
    answered = []
    place = 0
    while place < len(calls):
        number = calls[place]
        start = place + 1
        place = start + CALLS[number][0]
        given = calls[start:place]
        for row in range(CALLS[number][1]):
            start = place + 1
            place = start + calls[place]
            given.append(calls[start:place])
        answer = answer_one(kept, number, given)
        answered.append(len(answer))
        answered.extend(answer)
    return answered
