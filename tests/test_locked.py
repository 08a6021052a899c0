"""Call 19: the locked acts in the order in which they were asked."""

import unittest

from cases import AskedCase
from lines import LAST_DAY, aside, choice, code, locked, name, restore, reverse, rule, run, run_told, use, work


def scene(acts):
    """Names 1 to 6 of one work, older by their keys, works 11 to 19 of the days 11 to 19, and acts."""
    telling = [code(0, 0, 0, 1, 0), work(1, 10)] + [work(key, key) for key in range(11, 20)]
    return telling + [name(key, 1, key) for key in range(1, 7)] + acts


class TestLocked(AskedCase):
    def locked_at(self, days_and_keys, acts):
        calls = [(locked(d), [0] + keys) for d, keys in days_and_keys]
        self.all_answered(calls, scene(acts))
        self.all_answered(calls, scene(acts[::-1]))

    def test_by_kinds(self):
        # The kinds go against the days and the keys.
        acts = [choice(1, 11, 2, 1), reverse(2, 12, 4, 3), rule(3, 13, 6, 5)]
        self.locked_at(((10, []), (11, [1]), (12, [2, 1]), (13, [3, 2, 1]), (LAST_DAY, [3, 2, 1])), acts)

    def test_by_days(self):
        for call in (choice, reverse, rule):
            acts = [call(3, 11, 2, 1), call(2, 12, 4, 3), call(1, 13, 6, 5)]
            self.locked_at(((0, []), (11, [3]), (12, [3, 2]), (19, [3, 2, 1])), acts)

    def test_by_keys(self):
        for call in (choice, reverse, rule):
            acts = [call(10, 11, 2, 1), call(9, 11, 4, 3), call(1000000000, 11, 6, 5), call(1, 11, 6, 4)]
            self.locked_at(((10, []), (11, [1, 9, 10, 1000000000])), acts)

    def test_the_key_of_the_work_does_not_matter(self):
        acts = [rule(1, 50, 2, 1), rule(2, 11, 3, 1)]
        self.answered(locked(11), [0, 1, 2], scene([work(50, 11)] + acts))

    def test_all_together(self):
        acts = [
            choice(1, 12, 2, 1), choice(8, 11, 4, 3), choice(2, 11, 6, 5), reverse(3, 12, 2, 1), reverse(7, 11, 4, 3),
            reverse(4, 11, 6, 5), rule(5, 12, 2, 1), rule(9, 11, 4, 3), rule(6, 11, 6, 5),
        ]
        self.locked_at(((12, [6, 9, 5, 4, 7, 3, 2, 8, 1]), (11, [6, 9, 4, 7, 2, 8])), acts)

    def test_acts_that_would_close_a_ring_are_left_out(self):
        acts = [rule(1, 11, 1, 2), rule(2, 11, 2, 3), rule(3, 11, 3, 1), rule(4, 11, 3, 4), choice(5, 11, 4, 1)]
        self.locked_at(((11, [1, 2, 4]),), acts)

    def test_hindered_acts_are_left_out(self):
        acts = [
            work(20, 20), name(7, 20), rule(1, 11, 2, 1), choice(2, 11, 7, 1), reverse(3, 11, 1, 2), rule(4, 11, 7, 1),
            aside(5, 15, 2), restore(6, 17, 2),
        ]
        telling = scene(acts)
        self.all_answered([
            (locked(10), [0]), (locked(11), [0, 1]), (locked(14), [0, 1]), (locked(15), [0]), (locked(17), [0, 1]),
            (locked(19), [0, 1]), (locked(20), [0, 1, 4]),
        ], telling)

    def test_acts_of_one_name_are_never_locked(self):
        self.locked_at(((LAST_DAY, []),), [aside(1, 11, 1), restore(2, 12, 1), restore(3, 11, 2)])

    def test_what_is_told_later(self):
        telling = [code(0, 1, 1, 100, 0), work(1, 10), work(2, 20), name(1, 1), name(2, 2), reverse(7, 2, 2, 1)]
        asked = [locked(20), use(2, 2), locked(20), use(1, 1), locked(20), rule(3, 1, 2, 1), locked(20)]
        self.assertEqual(run_told(telling, asked), [[0], [0], [0, 7], [0], [0], [0], [0, 3]])

    def test_refused(self):
        self.TELLING = scene([rule(1, 11, 2, 1)])
        self.refused_at_days_out_of_bounds(locked)

    def test_nothing_kept(self):
        self.assertEqual(run([locked(0), locked(LAST_DAY), locked(LAST_DAY + 1)]), [[0], [0], [-9]])

    def test_sixty(self):
        acts = [rule(key, 11, key % 5 + 2, key % 5 + 1) for key in range(1, 61)]
        self.answered(locked(11), [0] + list(range(1, 61)), scene(acts))


if __name__ == "__main__":
    unittest.main()
