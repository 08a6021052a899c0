"""Calls 11 to 13: first, why and check; the name of a set."""

import unittest

from cases import DAYS_OUT_OF_BOUNDS, FAR, AskedCase
from lines import LAST_DAY, aside, check, first, name, restore, rule, run, why, work

# By days: 100: 1; 200: 1, 2; 300: 1, 2, 3; 400: 1, 2; 500: 1, 2, 3; 600: 1, 2, 3, 4; 700: 2, 3, 4, 1.
SCENE = [
    work(10, 100), work(20, 200), work(30, 300), work(40, 400), work(50, 500), work(60, 600), work(70, 700),
    name(1, 10), name(2, 20), name(3, 30), name(4, 60),
    aside(1, 40, 3), restore(2, 50, 3), rule(3, 70, 4, 1),
]

# A day, a set, and what why answers for it behind the 0.
WAYS = (
    (99, [1, 2, 3, 4], []), (100, [1, 2, 3, 4], [1]), (199, [2], []), (200, [2], [1, 2]), (200, [2, 1], [1]),
    (299, [3], []), (300, [3], [1, 2, 3]), (399, [4, 3], [1, 2, 3]), (400, [4, 3], []), (499, [3], []),
    (500, [3], [1, 2, 3]), (600, [4], [1, 2, 3, 4]), (600, [4, 3], [1, 2, 3]), (699, [4, 1], [1]),
    (700, [4, 1], [2, 3, 4]), (700, [1], [2, 3, 4, 1]), (700, [1, 2], [2]), (700, [1, 2, 3, 4], [2]),
    (LAST_DAY, [3, 1], [2, 3]), (0, [1], []),
)

# Sets at the day 700, of which nothing stands, or nothing but the last of the order, 1.
EMPTY = (
    [], [5], [0], [-1], [10, 70], [0, -1, 5, 1000000000, 1000000001, FAR, -FAR], [FAR] * 60, [0] * 60,
)
OF_1 = (
    [1, 1], [1] * 60, [5, 1], [1, 5], [0, 1, 0], [-1, 1, FAR, -FAR], [1000000001, 1], [10, 20, 30, 1, 70], [7] * 59 + [1],
    [1] + [-FAR] * 59, list(range(5, 64)) + [1],
)


class TestFirst(AskedCase):
    TELLING = SCENE

    def test_ordinary(self):
        self.all_answered([(first(d, s), [way[-1] if way else 0]) for d, s, way in WAYS])

    def test_passed_over(self):
        self.all_answered([(first(700, s), [0]) for s in EMPTY])
        self.all_answered([(first(700, s), [1]) for s in OF_1])

    def test_a_name_that_does_not_stand_is_passed_over(self):
        self.all_answered([
            (first(450, [3]), [0]), (first(450, [3, 2]), [2]), (first(450, [3, 4]), [0]), (first(450, [3, 3, 1, 3]), [1]),
            (first(150, [2, 1]), [1]), (first(150, [2, 3, 4]), [0]),
        ])

    def test_the_place_in_the_set_does_not_matter(self):
        self.all_answered([
            (first(700, s), [3]) for s in ([3, 4, 1], [3, 1, 4], [4, 3, 1], [4, 1, 3], [1, 3, 4], [1, 4, 3])
        ])

    def test_the_documents_own(self):
        telling = [
            work(1, 1820), work(2, 1850), work(3, 1900), work(4, 1910), name(2, 1), name(3, 2), name(1, 3),
            rule(1, 4, 1, 2),
        ]
        self.all_answered([
            (first(1950, [2, 3]), [3]), (first(1950, [1, 2]), [1]), (first(1950, [2]), [2]),
            (first(1909, [2, 3]), [2]), (why(1950, [2, 3]), [0, 3]), (why(1950, [2]), [0, 3, 1, 2]),
        ], telling)

    def test_refused(self):
        self.refused_at_days_out_of_bounds(lambda d: first(d, [1]))
        self.refused_at_days_out_of_bounds(lambda d: first(d, []))

    def test_nothing_kept(self):
        self.assertEqual(run([first(0, []), first(LAST_DAY, [1, 2]), first(5, [0])]), [[0], [0], [0]])

    def test_greatest_keys_and_last_day(self):
        telling = [work(1000000000, LAST_DAY), name(1000000000, 1000000000), name(1, 1000000000, 2)]
        self.all_answered([
            (first(LAST_DAY, [1, 1000000000]), [1000000000]), (first(LAST_DAY - 1, [1, 1000000000]), [0]),
            (first(LAST_DAY, [1000000001, 1]), [1]),
        ], telling)


class TestWhy(AskedCase):
    TELLING = SCENE

    def test_ordinary(self):
        self.all_answered([(why(d, s), [0] + way) for d, s, way in WAYS])

    def test_passed_over(self):
        self.all_answered([(why(700, s), [0]) for s in EMPTY])
        self.all_answered([(why(700, s), [0, 2, 3, 4, 1]) for s in OF_1])

    def test_refused(self):
        self.refused_at_days_out_of_bounds(lambda d: why(d, [1]))
        self.refused_at_days_out_of_bounds(lambda d: why(d, []))

    def test_nothing_kept(self):
        self.assertEqual(run([why(0, []), why(LAST_DAY, [1, 2]), why(5, [0])]), [[0], [0], [0]])

    def test_through_40_names(self):
        telling = [work(1, 1)] + [name(key, 1, key) for key in range(1, 41)]
        self.all_answered([
            (why(1, [40]), [0] + list(range(1, 41))), (why(1, list(range(1, 41))), [0, 1]),
            (why(1, list(range(40, 20, -1))), [0] + list(range(1, 22))),
        ], telling)


class TestCheck(AskedCase):
    TELLING = SCENE

    def test_the_right_list(self):
        self.all_answered([(check(d, s, way), [1 if way else 0]) for d, s, way in WAYS])

    def test_an_empty_list(self):
        for d, s, way in WAYS:
            self.answered(check(d, s, []), [0])
        self.all_answered([(check(700, s, []), [0]) for s in EMPTY + OF_1])

    def test_passed_over_in_the_set(self):
        self.all_answered([(check(700, s, [2, 3, 4, 1]), [1]) for s in OF_1])
        self.all_answered([(check(700, s, [2, 3, 4, 1]), [0]) for s in EMPTY])

    def test_nothing_is_passed_over_in_the_list(self):
        wrong = (
            [2, 3, 3, 4, 1], [2, 2, 3, 4, 1], [2, 3, 4, 1, 1], [5, 2, 3, 4, 1], [2, 3, 4, 5, 1], [2, 3, 4, 1, 5],
            [2, 3, 4, 1, 0], [0, 2, 3, 4, 1], [2, -1, 3, 4, 1], [2, 3, FAR, 4, 1], [2, 3, 4, 1, -FAR],
        )
        self.all_answered([(check(700, [1], claimed), [0]) for claimed in wrong])

    def test_too_short_too_long_or_another(self):
        wrong = (
            [2], [2, 3], [2, 3, 4], [3, 4, 1], [4, 1], [1], [2, 4, 1], [2, 3, 1], [3, 2, 4, 1], [2, 3, 1, 4],
            [1, 2, 3, 4], [1, 4, 3, 2], [9, 3, 4, 1], [2, 9, 4, 1], [2, 3, 9, 1], [2, 3, 4, 9], [2, 3, 4, 1] * 2,
            [2, 3, 4, 1] * 15, [0] * 60, [-2, 3, 4, 1],
        )
        self.all_answered([(check(700, [1], claimed), [0]) for claimed in wrong])

    def test_the_list_goes_no_further_than_the_name(self):
        self.all_answered([
            (check(700, [3, 1], [2, 3]), [1]), (check(700, [3, 1], [2, 3, 4, 1]), [0]),
            (check(700, [3, 1], [2, 3, 4]), [0]), (check(700, [3, 1], [2]), [0]),
        ])

    def test_another_day(self):
        self.all_answered([
            (check(699, [1], [2, 3, 4, 1]), [0]), (check(699, [1], [1]), [1]), (check(700, [1], [1]), [0]),
        ])

    def test_the_set_whose_name_is_0(self):
        for s in EMPTY:
            for claimed in ([], [0], [1], [2, 3, 4, 1], s):
                self.answered(check(700, s, claimed), [0])
        self.answered(check(99, [1], []), [0])
        self.answered(check(99, [1], [1]), [0])

    def test_refused(self):
        self.refused_at_days_out_of_bounds(lambda d: check(d, [1], [2, 3, 4, 1]))
        self.refused_at_days_out_of_bounds(lambda d: check(d, [], []))

    def test_nothing_kept(self):
        self.assertEqual(run([check(0, [], []), check(5, [1], [1]), check(5, [1], [])]), [[0], [0], [0]])

    def test_lists_of_60(self):
        telling = [work(1, 1)] + [name(key, 1, key) for key in range(1, 41)]
        forty = list(range(1, 41))
        self.all_answered([
            (check(1, [40] + [0] * 59, forty), [1]), (check(1, [40] * 60, forty + [0] * 20), [0]),
            (check(1, [40], forty[:39] + [41]), [0]), (check(1, [40], forty[:39]), [0]),
        ], telling)

    def test_rows_of_unlike_lengths_one_behind_another(self):
        """Where a row ends wrongly the next call begins wrongly."""
        line = list(SCENE)
        wanted = [[0]] * len(SCENE)
        for s in ([], [1], [1, 1, 1], [20, 18, 13, 1], [1] * 60):
            for claimed in ([], [2, 3, 4, 1], [12, 700, 0], [20] * 60):
                line = line + [check(700, s, claimed), first(700, s), why(700, s)]
                found = [2, 3, 4, 1] if 1 in s else []
                wanted = wanted + [[1 if found and claimed == found else 0], [1 if found else 0], [0] + found]
        self.assertEqual(run(line), wanted)


class TestRefusedWithRows(unittest.TestCase):
    def test_the_rows_of_a_refused_call_are_gone_over(self):
        for d in DAYS_OUT_OF_BOUNDS:
            line = [first(d, [20, 20]), why(d, [20] * 60), check(d, [1, 20], [20, 5, 5]), check(d, [], []), first(5, [])]
            self.assertEqual(run(line), [[-9], [-9], [-9], [-9], [0]])


if __name__ == "__main__":
    unittest.main()
