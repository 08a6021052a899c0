"""Call 14: whether a name comes before another one."""

import unittest

from cases import DAYS_OUT_OF_BOUNDS, FAR, AskedCase
from lines import LAST_DAY, aside, before, name, restore, rule, run, work

NOT_NAMES = (0, -1, 5, 10, 1000000000, 1000000001, FAR, -FAR)


class TestBefore(AskedCase):
    # By days: 100: 1; 200: 1, 2; 300: 1, 2, 3; 400: 1, 3; 500: 1, 2, 3; 600: 2, 3, 1.
    TELLING = [
        work(10, 100), work(20, 200), work(30, 300), work(40, 400), work(50, 500), work(60, 600),
        name(1, 10), name(2, 20), name(3, 30), aside(1, 40, 2), restore(2, 50, 2), rule(3, 60, 3, 1),
    ]

    def test_by_age(self):
        self.all_answered([
            (before(200, 1, 2), [1]), (before(200, 2, 1), [0]), (before(300, 1, 3), [1]), (before(300, 3, 1), [0]),
            (before(300, 2, 3), [1]), (before(300, 3, 2), [0]), (before(599, 1, 3), [1]), (before(599, 3, 1), [0]),
        ])

    def test_by_an_act(self):
        for d in (600, LAST_DAY):
            self.all_answered([
                (before(d, 3, 1), [1]), (before(d, 1, 3), [0]), (before(d, 2, 1), [1]), (before(d, 1, 2), [0]),
                (before(d, 2, 3), [1]), (before(d, 3, 2), [0]),
            ])

    def test_the_same(self):
        for d in (300, 600):
            self.all_answered([(before(d, key, key), [0]) for key in (1, 2, 3)])

    def test_one_does_not_stand(self):
        self.all_answered([
            (before(199, 1, 2), [-6]), (before(199, 2, 1), [-6]), (before(399, 1, 2), [1]), (before(400, 1, 2), [-6]),
            (before(400, 2, 1), [-6]), (before(400, 1, 3), [1]), (before(499, 2, 3), [-6]), (before(500, 2, 3), [1]),
        ])

    def test_none_stands(self):
        self.all_answered([
            (before(99, 1, 2), [-6]), (before(99, 1, 1), [-6]), (before(400, 2, 2), [-6]), (before(0, 3, 2), [-6]),
        ])

    def test_keys_of_no_name(self):
        for key in NOT_NAMES:
            self.all_answered([(before(600, key, 1), [-6]), (before(600, 1, key), [-6]), (before(600, key, key), [-6])])

    def test_refused_at_a_day_out_of_bounds(self):
        self.refused_at_days_out_of_bounds(lambda d: before(d, 1, 2))

    def test_order_of_refusals(self):
        for d in DAYS_OUT_OF_BOUNDS:
            for key in NOT_NAMES:
                self.all_answered([(before(d, key, 1), [-9]), (before(d, 1, key), [-9]), (before(d, key, key), [-9])])

    def test_nothing_kept(self):
        self.assertEqual(run([before(0, 1, 2), before(LAST_DAY, 1, 1), before(-1, 1, 2)]), [[-6], [-6], [-9]])

    def test_days_at_both_ends(self):
        telling = [work(1, 0), work(2, LAST_DAY), name(1, 1, 1), name(2, 1, 2), name(3, 2)]
        self.all_answered([
            (before(0, 1, 2), [1]), (before(0, 2, 1), [0]), (before(LAST_DAY - 1, 1, 3), [-6]),
            (before(LAST_DAY, 1, 3), [1]), (before(LAST_DAY, 3, 1), [0]),
        ], telling)


if __name__ == "__main__":
    unittest.main()
