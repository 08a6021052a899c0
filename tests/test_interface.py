"""The form of what is handed in and given back."""

import contextlib
import io
import sys
import unittest

import nameorder.registers
from lines import (
    LAST_DAY, aside, before, check, choice, code, fate, first, history, joined, locked, name, order, parted, restore,
    reverse, ring, rule, stands, tally, told, use, why, work,
)

LINE = [
    code(500, 1, 1, 100, 0), work(1, 100), work(2, 200, 2), work(1, 3), name(1, 1), name(2, 2), name(3, 2, 2),
    use(2, 2), use(1, 2), reverse(1, 2, 2, 1), choice(2, 2, 3, 2), rule(3, 2, 1, 3), aside(4, 2, 3),
    order(200), restore(5, 2, 3), stands(200, 3), stands(99, 1), order(200), order(-1), order(99),
    first(200, [3, 1]), first(-1, [3, 1]), why(200, [1]), why(200, []), check(200, [1, 1], [2, 1]), check(200, [], []),
    before(200, 2, 1), before(200, 3, 4), fate(200, 2), fate(200, 4), fate(200, 9), ring(200, 2), ring(200, 1),
    tally(1), tally(2), history([3, 2]), history([]), locked(200), told(),
]

ANSWERED = [
    1, 0, 1, 0, 1, 0, 1, -5, 1, 0, 1, 0, 1, 0,
    1, 0, 1, -15, 1, 0, 1, 0, 1, 0, 1, 0,
    3, 0, 2, 1, 1, 0, 1, 1, 1, 0, 4, 0, 2, 1, 3, 1, -9, 1, 0,
    1, 1, 1, -9, 3, 0, 2, 1, 1, 0, 1, 1, 1, 0,
    1, 1, 1, -6, 1, 5, 1, 6, 1, -6, 3, 0, 1, 3, 1, -14,
    6, 0, 0, 1, 1, 0, 1, 1, -14, 3, 0, 200, 2, 1, 0, 3, 0, 3, 1,
    52, 0, 500, 1, 1, 100, 0, 2, 1, 100, 1, 2, 200, 2, 3, 1, 1, 1, 2, 2, 1, 3, 2, 2, 1, 2, 2,
    5, 1, 2, 2, 2, 1, 2, 1, 2, 3, 2, 3, 3, 2, 1, 3, 4, 4, 2, 3, 0, 5, 5, 2, 3, 0,
]


def depth():
    """How many calls there are within one another here."""
    frame = sys._getframe()
    count = 0
    while frame is not None:
        count += 1
        frame = frame.f_back
    return count


class Untouched(list):
    """A list that does not let itself be changed."""

    def refuse(self, *given, **named):
        raise AssertionError("what was handed in was changed")

    append = clear = extend = insert = pop = remove = reverse = sort = refuse
    __setitem__ = __delitem__ = __iadd__ = __imul__ = refuse


class TestInterface(unittest.TestCase):
    def test_counts_and_answers(self):
        self.assertEqual(nameorder.registers.answers(joined(LINE)), ANSWERED)

    def test_each_call_as_the_first(self):
        firsts = (
            (code(0, 0, 0, 1, 0), 0), (work(1, 1), 0), (name(1, 1), -6), (use(1, 1), -6), (choice(1, 1, 1, 1), -6),
            (reverse(1, 1, 1, 2), -6), (rule(1, 1, 1, 2), -6), (aside(1, 1, 1), -6), (restore(1, 1, 1), -6),
            (stands(0, 1), 0), (order(0), 0), (first(0, []), 0), (why(0, [1]), 0), (check(0, [1], [1]), 0),
            (before(0, 1, 1), -6), (fate(0, 1), -6), (ring(0, 1), -6), (tally(1), -6), (history([1]), 0), (locked(0), 0),
        )
        for number, (call, answer) in enumerate(firsts):
            self.assertEqual(call[0], number)
            self.assertEqual(nameorder.registers.answers(call), [1, answer])
        self.assertEqual(nameorder.registers.answers(told()), [10, 0, 73048, 25, 10, 18262, 3652, 0, 0, 0, 0])

    def test_the_kinds_of_what_is_given_back(self):
        given = nameorder.registers.answers(joined(LINE))
        self.assertIs(type(given), list)
        self.assertEqual({type(number) for number in given}, {int})

    def test_what_is_handed_in_is_not_changed(self):
        calls = joined(LINE)
        before = list(calls)
        nameorder.registers.answers(calls)
        self.assertEqual(calls, before)

    def test_what_is_handed_in_is_not_changed_for_a_while_either(self):
        self.assertEqual(nameorder.registers.answers(Untouched(joined(LINE))), ANSWERED)

    def test_what_is_given_back_is_new(self):
        calls = joined(LINE)
        first = nameorder.registers.answers(calls)
        first.clear()
        self.assertEqual(nameorder.registers.answers(calls), ANSWERED)

    def test_nothing_is_kept_from_one_time_to_the_next(self):
        calls = joined(LINE)
        self.assertEqual(nameorder.registers.answers(calls), ANSWERED)
        self.assertEqual(nameorder.registers.answers(calls), ANSWERED)
        self.assertEqual(nameorder.registers.answers(order(LAST_DAY) + stands(LAST_DAY, 1)), [1, 0, 1, 0])
        self.assertEqual(nameorder.registers.answers(told()), [10, 0, 73048, 25, 10, 18262, 3652, 0, 0, 0, 0])

    def test_it_prints_and_imports_nothing(self):
        modules = sorted(sys.modules)
        printed = io.StringIO()
        with contextlib.redirect_stdout(printed), contextlib.redirect_stderr(printed):
            nameorder.registers.answers(joined(LINE))
        self.assertEqual(printed.getvalue(), "")
        self.assertEqual(sorted(sys.modules), modules)

    def test_little_is_called_within_one_another(self):
        """Lists as long as may be are gone through where few calls within one another are allowed."""
        line = [code(0, 0, 0, 1, 0), work(1, 1)] + [name(key, 1, key) for key in range(1, 41)]
        line = line + [rule(key, 1, key, key + 1) for key in range(1, 40)] + [choice(60, 1, 40, 1), ring(1, 60)]
        line = line + [history([40] * 60)] * 300
        calls = joined(line)
        limit = sys.getrecursionlimit()
        sys.setrecursionlimit(depth() + 30)
        try:
            given = nameorder.registers.answers(calls)
        finally:
            sys.setrecursionlimit(limit)
        self.assertEqual(parted(given)[82:84], [[0] + list(range(1, 40)), [0, 1, 40]])

    def test_the_code_is_not_kept_from_one_time_to_the_next(self):
        line = [work(1, 10), work(2, 20), name(1, 1), name(2, 2), reverse(1, 2, 2, 1), order(20)]
        for the_code, wanted in (([code(0, 0, 0, 1, 0)], [0, 2, 1]), ([], [0, 1, 2])):
            given = nameorder.registers.answers(joined(the_code + line))
            self.assertEqual(parted(given)[-1], wanted)

    def test_a_line_of_400_calls(self):
        line = [code(0, 0, 0, LAST_DAY + 1, 0)] + [work(key, key) for key in range(1, 81)]
        line = line + [name(key, key) for key in range(1, 41)]
        line = line + [use(80 - other, key) for key in range(1, 41) for other in range(5)]
        line = line + [reverse(key, 80, key + 1, key) for key in range(1, 40)]
        line = line + [rule(key, 80, key - 20, key - 25) for key in range(40, 61)]
        self.assertEqual(len(line), 381)
        line = line + [order(80)] * 19
        given = parted(nameorder.registers.answers(joined(line)))
        self.assertEqual(given[:381], [[0]] * 381)
        # Each older name is used from the limit on, so no reversal is earned. Each ruling sets the name
        # n + 5 over the name n, for n from 15 to 35.
        wanted = list(range(1, 15))
        for upper in (36, 37, 38, 39, 40):
            wanted.extend(range(upper, 14, -5))
        self.assertEqual(given[381], [0] + wanted)
        self.assertEqual(given[382:], [given[381]] * 18)


if __name__ == "__main__":
    unittest.main()
