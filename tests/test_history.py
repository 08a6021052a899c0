"""Call 18: how the name of a set changes."""

import unittest

from cases import FAR, AskedCase
from lines import (
    LAST_DAY, aside, choice, code, first, history, name, restore, reverse, rule, run, run_told, told, use, work,
)

WORKS = [work(key, key) for key in (10, 20, 30, 40, 50, 60, 70, 80)]
# Each name comes out at ten times its key.
NAMES = [name(key, key * 10) for key in (1, 2, 3, 4)]


class TestHistory(AskedCase):
    def changes(self, s, wanted, acts):
        telling = WORKS + NAMES + acts
        self.answered(history(s), [0] + wanted, telling)
        # At each day with a change and the day before it the name of the set is as told.
        last = 0
        for day, now in zip(wanted[::2], wanted[1::2]):
            asked = ([first(day - 1, s)] if day > 0 else []) + [first(day, s)]
            self.assertEqual(run_told(telling, asked), ([[last]] if day > 0 else []) + [[now]])
            last = now
        self.assertEqual(run_told(telling, [first(LAST_DAY, s)]), [[last]])

    def test_a_name_that_comes_out(self):
        self.changes([1], [10, 1], [])
        self.changes([3], [30, 3], [])

    def test_the_older_stays(self):
        self.changes([1, 2, 3, 4], [10, 1], [])
        self.changes([4, 3], [30, 3], [])

    def test_set_aside_and_restored(self):
        self.changes([2], [20, 2, 40, 0, 60, 2], [aside(1, 40, 2), restore(2, 60, 2)])
        self.changes([2, 3], [20, 2, 40, 3, 60, 2], [aside(1, 40, 2), restore(2, 60, 2)])
        self.changes([1, 2], [10, 1], [aside(1, 40, 2), restore(2, 60, 2)])
        self.changes([2, 4], [20, 2, 30, 0, 40, 4, 60, 2], [aside(1, 30, 2), restore(2, 60, 2)])

    def test_several_changes(self):
        acts = [
            rule(1, 50, 4, 1), aside(2, 60, 4), restore(3, 70, 4), aside(4, 80, 2), aside(5, 80, 3), aside(6, 80, 1),
        ]
        self.changes([1, 4], [10, 1, 50, 4, 60, 1, 70, 4], acts)
        self.changes([1, 2, 3], [10, 1, 50, 2, 60, 1, 70, 2, 80, 0], acts)
        self.changes([1, 2, 4], [10, 1, 50, 2, 60, 1, 70, 2, 80, 4], acts)
        self.changes([1], [10, 1, 80, 0], acts)

    def test_wanting_from_then_on(self):
        self.changes([3], [30, 3, 40, 0], [aside(1, 40, 3)])
        self.changes([3], [30, 3, 40, 0], [aside(1, 40, 3), aside(2, 50, 3), restore(3, 20, 3)])

    def test_two_acts_on_one_day(self):
        self.changes([2], [20, 2], [aside(1, 40, 2), restore(2, 40, 2)])
        self.changes([2], [20, 2, 40, 0], [aside(2, 40, 2), restore(1, 40, 2)])
        self.changes([2, 3], [20, 2], [aside(1, 40, 2), restore(2, 40, 2)])
        # On the day 40 one is set aside and another restored.
        acts = [aside(1, 30, 2), aside(2, 40, 3), restore(3, 40, 2)]
        self.changes([2, 3], [20, 2, 30, 3, 40, 2], acts)

    def test_a_name_comes_out_on_the_day_of_an_act(self):
        self.changes([2, 4], [20, 2, 40, 4], [rule(1, 40, 4, 2)])
        self.changes([2, 4], [20, 2, 40, 4], [aside(1, 40, 2)])
        self.changes([4], [], [aside(1, 40, 4)])
        self.changes([4], [50, 4], [aside(1, 40, 4), restore(2, 50, 4)])
        self.changes([4], [50, 4], [aside(1, 20, 4), restore(2, 50, 4)])
        self.changes([4], [40, 4], [aside(1, 20, 4), restore(2, 30, 4)])

    def test_names_of_one_day(self):
        others = [name(5, 20, 2), name(6, 20, 3)]
        self.changes([5, 6], [20, 5], others)
        self.changes([5, 6], [20, 5, 50, 6], others + [choice(1, 50, 6, 5)])
        self.changes([5, 6, 2], [20, 2], others + [choice(1, 50, 6, 5)])

    def test_a_name_between_comes_first(self):
        # The ruling of 3 over 1 puts 1 behind 2 as well.
        self.changes([1, 2], [10, 1, 50, 2], [rule(1, 50, 3, 1)])

    def test_two_acts_that_undo_each_other_on_one_day(self):
        self.changes([1, 2], [10, 1], [rule(1, 50, 1, 2), rule(2, 50, 2, 1)])
        self.changes([1, 2], [10, 1, 50, 2], [rule(2, 50, 1, 2), rule(1, 50, 2, 1)])

    def test_an_act_that_closes_no_ring_any_more(self):
        # At the day 60, without 2, the ring is open.
        acts = [rule(1, 50, 1, 2), rule(2, 50, 2, 3), rule(3, 50, 3, 1), aside(4, 60, 2), restore(5, 70, 2)]
        self.changes([1, 3], [10, 1, 60, 3, 70, 1], acts)

    def test_a_set_of_which_nothing_ever_stands(self):
        for s in ([], [5], [0], [-1, 5, 10, FAR, -FAR, 1000000001], [0] * 60):
            self.changes(s, [], [aside(1, 40, 2), restore(2, 60, 2)])

    def test_passed_over_in_a_set(self):
        acts = [aside(1, 40, 2), restore(2, 60, 2)]
        for s in ([2, 2], [2] * 60, [0, 2], [2, 5, -1], [FAR, -FAR, 2, 10], [7] * 59 + [2]):
            self.changes(s, [20, 2, 40, 0, 60, 2], acts)

    def test_day_0(self):
        telling = [work(1, 0), work(2, 1), work(3, 2), name(1, 1, 1), name(2, 1, 2), name(3, 2)]
        self.all_answered([
            (history([1]), [0, 0, 1]), (history([1, 2, 3]), [0, 0, 1]), (history([2]), [0, 0, 2]),
            (history([3]), [0, 1, 3]), (history([]), [0]),
        ], telling)
        self.all_answered([
            (history([1, 2]), [0, 0, 2, 1, 1]), (history([1]), [0, 1, 1]), (history([1, 3]), [0, 1, 1]),
        ], telling + [aside(1, 1, 1), restore(2, 2, 1)])
        self.all_answered([
            (history([1, 2]), [0, 0, 1, 2, 0]), (history([2]), [0, 0, 2, 1, 0]),
        ], telling + [aside(1, 3, 1), aside(2, 2, 2)])

    def test_the_last_day(self):
        telling = [work(1, LAST_DAY - 1), work(2, LAST_DAY), name(1, 1), name(2, 2), aside(1, 2, 1)]
        self.all_answered([
            (history([1]), [0, LAST_DAY - 1, 1, LAST_DAY, 0]), (history([2]), [0, LAST_DAY, 2]),
            (history([2, 1]), [0, LAST_DAY - 1, 1, LAST_DAY, 2]),
        ], telling)

    def test_works_that_only_use(self):
        # A use changes nothing at its own day, but a reversal at the reversal's day.
        telling = [code(25, 1, 1, 100, 0)] + WORKS + NAMES + [reverse(1, 60, 4, 3), use(50, 4)]
        self.answered(history([3, 4]), [0, 30, 3, 60, 4], telling)
        self.answered(history([3, 4]), [0, 30, 3], telling + [use(40, 3)])

    def test_days_told_in_another_order(self):
        telling = [work(3, 30), work(1, 10), work(2, 20), name(3, 1), name(1, 3), name(2, 2), rule(9, 3, 1, 3)]
        self.answered(history([3, 1]), [0, 10, 3, 30, 1], telling)
        self.answered(history([3, 2]), [0, 10, 3, 30, 2], telling)

    def test_what_is_told_later(self):
        telling = WORKS + NAMES
        asked = [history([1, 2]), aside(1, 30, 1), history([1, 2]), restore(2, 20, 1), history([1, 2])]
        self.assertEqual(
            run_told(telling, asked), [[0, 10, 1], [0], [0, 10, 1, 30, 2], [0], [0, 10, 1, 30, 2]],
        )

    def test_nothing_kept(self):
        self.assertEqual(run([history([]), history([1]), history([0, -1]), told()])[:3], [[0], [0], [0]])

    def test_works_alone(self):
        self.assertEqual(run_told(WORKS, [history([]), history([10])]), [[0], [0]])

    def test_eighty_days_of_change(self):
        telling = [work(key, key) for key in range(1, 81)] + [name(1, 1), name(2, 2)]
        telling = telling + [(aside, restore)[key % 2](key, key, 1) for key in range(10, 70)]
        wanted = [1, 1]
        for day in range(10, 70):
            wanted += [day, 1 if day % 2 else 2]
        self.answered(history([1, 2]), [0] + wanted, telling)
        self.answered(history([2]), [0, 2, 2], telling)


if __name__ == "__main__":
    unittest.main()
