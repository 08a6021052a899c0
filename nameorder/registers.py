"""The calls on one object, one behind another, and their answers."""

from nameorder.bounds import ASIDE, CHOICE, OUT_OF_BOUNDS, RESTORE, REVERSAL, RULING, is_day
from nameorder.kept import Kept
from nameorder.precedence import precedence
from nameorder.standing import stands
from nameorder.telling import tell_act_of_one, tell_act_of_two, tell_code, tell_name, tell_use, tell_work


def answer_code(kept, given):
    return [tell_code(kept, given[0], given[1], given[2], given[3], given[4])]


def answer_work(kept, given):
    return [tell_work(kept, given[0], given[1], given[2])]


def answer_name(kept, given):
    return [tell_name(kept, given[0], given[1], given[2])]


def answer_use(kept, given):
    return [tell_use(kept, given[0], given[1])]


def answer_choice(kept, given):
    return [tell_act_of_two(kept, CHOICE, given[0], given[1], given[2], given[3])]


def answer_reverse(kept, given):
    return [tell_act_of_two(kept, REVERSAL, given[0], given[1], given[2], given[3])]


def answer_rule(kept, given):
    return [tell_act_of_two(kept, RULING, given[0], given[1], given[2], given[3])]


def answer_aside(kept, given):
    return [tell_act_of_one(kept, ASIDE, given[0], given[1], given[2])]


def answer_restore(kept, given):
    return [tell_act_of_one(kept, RESTORE, given[0], given[1], given[2])]


def answer_stands(kept, given):
    if not is_day(given[0]):
        return [OUT_OF_BOUNDS]
    return [1 if stands(kept, given[1], given[0]) else 0]


def answer_order(kept, given):
    if not is_day(given[0]):
        return [OUT_OF_BOUNDS]
    return [0] + precedence(kept, given[0])


# By the number of a call: how many whole numbers it has, and what answers it.
CALLS = (
    (5, answer_code),
    (3, answer_work),
    (3, answer_name),
    (2, answer_use),
    (4, answer_choice),
    (4, answer_reverse),
    (4, answer_rule),
    (3, answer_aside),
    (3, answer_restore),
    (2, answer_stands),
    (1, answer_order),
)


def answers(calls):
    """For each call in order: how many numbers are answered, then these."""
    kept = Kept()
    answered = []
    place = 0
    while place < len(calls):
        call = CALLS[calls[place]]
        start = place + 1
        place = start + call[0]
        answerer = call[1]
        answer = answerer(kept, calls[start:place])
        answered.append(len(answer))
        answered.extend(answer)
    return answered
