"""Call 17: what a reversal has, of what the code asks for."""

import unittest

from cases import KEYS_OF_NO_ACT, AskedCase
from lines import LAST_DAY, aside, choice, code, name, order, restore, reverse, rule, run, run_told, tally, use, work

# The code asks for 3 works of 2 authors, in the 100 days up to the reversal, with 10 days between them.
CODE = code(1000, 3, 2, 100, 10)
D = 2000
NAMES = [work(1, 10, 50), work(2, 20, 60), work(3, D, 70), name(1, 1), name(2, 2)]
ACT = [reverse(7, 3, 2, 1)]


def uses_of(key, days_and_authors, first_work=100):
    """Works of those days and authors, each of which uses the name."""
    calls = []
    for place, (day, author) in enumerate(days_and_authors):
        calls = calls + [work(first_work + place, day, author), use(first_work + place, key)]
    return calls


class TestTally(AskedCase):
    def tallied(self, telling, wanted, the_code=CODE):
        self.answered(tally(7), [0] + wanted, [the_code] + NAMES + telling + ACT)

    def test_none(self):
        self.tallied([], [0, 0, 0, 0, 0])
        self.tallied([], [0, 0, 0, 0, 1], code(1000, 0, 0, 100, 0))
        self.tallied([], [0, 0, 0, 0, 0], code(1000, 0, 0, 100, 1))
        self.tallied([], [0, 0, 0, 0, 0], code(1000, 0, 1, 100, 0))
        self.tallied([], [0, 0, 0, 0, 0], code(1000, 1, 0, 100, 0))

    def test_the_code_at_the_beginning(self):
        self.answered(tally(7), [0, 0, 0, 0, 0, 0], NAMES + ACT)

    def test_some_and_earned(self):
        self.tallied(uses_of(2, [(1950, 1), (1955, 2), (1960, 1)]), [0, 3, 2, 10, 1])

    def test_more_than_asked(self):
        self.tallied(uses_of(2, [(1930 + place, 1 + place) for place in range(20)]), [0, 20, 20, 19, 1])

    def test_a_work_too_few(self):
        self.tallied(uses_of(2, [(1950, 1), (1960, 2)]), [0, 2, 2, 10, 0])

    def test_an_author_too_few(self):
        self.tallied(uses_of(2, [(1950, 5), (1955, 5), (1960, 5)]), [0, 3, 1, 10, 0])

    def test_a_day_of_the_span_too_few(self):
        self.tallied(uses_of(2, [(1950, 1), (1955, 2), (1959, 1)]), [0, 3, 2, 9, 0])

    def test_works_of_one_day(self):
        self.tallied(uses_of(2, [(1950, 1), (1950, 2), (1950, 3)]), [0, 3, 3, 0, 0])

    def test_works_told_in_another_order_than_their_days(self):
        self.tallied(uses_of(2, [(1960, 3), (1999, 9), (1921, 1), (1950, 3)]), [0, 4, 3, 78, 1])

    def test_both_ends_of_the_window(self):
        self.tallied(uses_of(2, [(1900, 1), (1901, 2), (D, 3), (D + 1, 4)]), [0, 2, 2, 99, 0])
        self.tallied(uses_of(2, [(1900, 1)]), [0, 0, 0, 0, 0])
        self.tallied(uses_of(2, [(1901, 1)]), [0, 1, 1, 0, 0])
        self.tallied(uses_of(2, [(D, 1)]), [0, 1, 1, 0, 0])
        self.tallied(uses_of(2, [(D + 1, 1)]), [0, 0, 0, 0, 0])

    def test_least_and_greatest_window(self):
        works = uses_of(2, [(20, 1), (D - 1, 2), (D, 3)])
        self.tallied(works, [0, 1, 1, 0, 1], code(1000, 1, 1, 1, 0))
        self.tallied(works, [0, 3, 3, D - 20, 1], code(1000, 3, 3, LAST_DAY + 1, D - 20))
        self.tallied(works, [0, 2, 2, 1, 1], code(1000, 1, 1, 2, 0))

    def test_both_ends_of_limit_to_the_day(self):
        enough = uses_of(2, [(1950, 1), (1955, 2), (1960, 1)])
        for day, counted in ((10, 0), (999, 0), (1000, 1), (1001, 1), (D, 1), (D + 1, 0), (LAST_DAY, 0)):
            self.tallied(enough + uses_of(1, [(day, 9)], 200), [counted, 3, 2, 10, 1 - counted])

    def test_several_works_that_use_b(self):
        works = uses_of(1, [(999, 1), (1000, 1), (1500, 1), (D, 2), (D + 1, 2)], 200)
        self.tallied(works, [3, 0, 0, 0, 0])
        self.tallied(works + uses_of(2, [(1950, 1), (1955, 2), (1960, 1)]), [3, 3, 2, 10, 0])

    def test_limits(self):
        works = uses_of(1, [(10, 1), (D, 2)], 200)
        self.tallied(works, [2, 0, 0, 0, 0], code(0, 0, 0, 1, 0))
        self.tallied(works, [1, 0, 0, 0, 0], code(D, 0, 0, 1, 0))
        self.tallied(works, [0, 0, 0, 0, 1], code(D + 1, 0, 0, 1, 0))
        self.tallied(works, [0, 0, 0, 0, 1], code(LAST_DAY, 0, 0, 1, 0))

    def test_one_work_that_uses_both(self):
        works = uses_of(2, [(1950, 1), (1955, 2), (1960, 1)])
        self.tallied(works + [use(100, 1), use(101, 1)], [2, 3, 2, 10, 0])

    def test_a_work_without_use_does_not_count(self):
        # The work 2, in which the name 2 came out, does not thereby use it.
        self.tallied([work(100, 1950), work(101, 1960)], [0, 0, 0, 0, 1], code(0, 0, 0, LAST_DAY + 1, 0))
        self.tallied([use(2, 2)], [0, 1, 1, 0, 1], code(0, 1, 1, LAST_DAY + 1, 0))

    def test_use_of_other_names_does_not_count(self):
        others = [name(3, 1), name(7, 2)] + uses_of(3, [(1950, 1), (1960, 2)]) + uses_of(7, [(1950, 1)], 200)
        self.tallied(others, [0, 0, 0, 0, 0])

    def test_the_older_over_the_younger(self):
        telling = [CODE] + NAMES + uses_of(1, [(1950, 1), (1955, 2), (1960, 1)]) + [reverse(7, 3, 1, 2)]
        self.answered(tally(7), [0, 0, 3, 2, 10, 0], telling)

    def test_names_of_one_day(self):
        telling = [CODE, work(1, 10), work(3, D), name(1, 1, 2), name(2, 1, 1)]
        telling = telling + uses_of(1, [(1950, 1), (1955, 2), (1960, 1)]) + uses_of(2, [(1950, 1)], 200)
        self.answered(tally(7), [0, 1, 3, 2, 10, 0], telling + [reverse(7, 3, 1, 2)])
        self.answered(tally(7), [0, 3, 1, 1, 0, 0], telling + [reverse(7, 3, 2, 1)])
        free = [code(LAST_DAY, 0, 0, 1, 0)] + telling[1:]
        self.answered(tally(7), [0, 0, 0, 0, 0, 1], free + [reverse(7, 3, 1, 2)])
        self.answered(tally(7), [0, 0, 0, 0, 0, 0], free + [reverse(7, 3, 2, 1)])

    def test_it_does_not_ask_whether_the_names_stand(self):
        enough = uses_of(2, [(1950, 1), (1955, 2), (1960, 1)])
        for key in (1, 2):
            telling = [CODE] + NAMES + enough + ACT + [aside(8, 1, key)]
            self.answered(tally(7), [0, 0, 3, 2, 10, 1], telling)

    def test_it_does_not_ask_whether_the_reversal_is_locked(self):
        enough = uses_of(2, [(1950, 1), (1955, 2), (1960, 1)])
        self.answered(tally(7), [0, 0, 3, 2, 10, 1], [CODE] + NAMES + enough + ACT + [rule(8, 1, 1, 2)])

    def test_a_reversal_before_its_names(self):
        telling = [code(0, 0, 0, 100, 0), work(1, 10), work(2, 20), work(3, 5), name(1, 1), name(2, 2), use(1, 1)]
        self.answered(tally(7), [0, 0, 0, 0, 0, 1], telling + [use(2, 2)] + ACT)

    def test_a_day_of_0_and_the_last_day(self):
        telling = [code(0, 1, 1, 5, 0), work(1, 0), name(1, 1, 1), name(2, 1, 2), use(1, 2), reverse(7, 1, 2, 1)]
        self.answered(tally(7), [0, 0, 1, 1, 0, 1], telling)
        telling = [
            code(LAST_DAY, 1, 1, LAST_DAY + 1, LAST_DAY), work(1, 0), work(2, LAST_DAY), name(1, 1, 1), name(2, 1, 2),
            use(1, 2), use(2, 2), use(1, 1), reverse(7, 2, 2, 1),
        ]
        self.answered(tally(7), [0, 0, 2, 1, LAST_DAY, 1], telling)
        self.answered(tally(7), [0, 1, 2, 1, LAST_DAY, 0], telling + [use(2, 1)])

    def test_what_is_told_later(self):
        telling = [CODE] + NAMES + uses_of(2, [(1950, 1), (1955, 2), (1960, 1)]) + ACT
        asked = [tally(7), work(300, 1500, 9), tally(7), use(300, 1), tally(7), work(301, 1999, 3), use(301, 2), tally(7)]
        self.assertEqual(run_told(telling, asked), [
            [0, 0, 3, 2, 10, 1], [0], [0, 0, 3, 2, 10, 1], [0], [0, 1, 3, 2, 10, 0], [0], [0], [0, 1, 4, 3, 49, 0],
        ])

    def test_earned_as_the_order_says(self):
        for works, earned in (([(1950, 1), (1955, 2), (1960, 1)], 1), ([(1950, 1), (1955, 2), (1959, 1)], 0)):
            given = run_told([CODE] + NAMES + uses_of(2, works) + ACT, [tally(7), order(D)])
            self.assertEqual(given[0][-1], earned)
            self.assertEqual(given[1], [0, 2, 1] if earned else [0, 1, 2])

    def test_of_several_reversals_its_own(self):
        telling = [CODE] + NAMES + [work(4, D - 45, 1), name(3, 1, 9)] + uses_of(2, [(1950, 1), (1955, 2), (1960, 1)])
        telling = telling + uses_of(3, [(1990, 1)], 200) + ACT + [reverse(8, 4, 2, 1), reverse(9, 3, 2, 3)]
        self.all_answered([
            (tally(7), [0, 0, 3, 2, 10, 1]), (tally(8), [0, 0, 2, 2, 5, 0]), (tally(9), [0, 1, 3, 2, 10, 0]),
        ], telling)


class TestRefused(AskedCase):
    TELLING = [CODE] + NAMES + [
        reverse(7, 3, 2, 1), choice(8, 3, 2, 1), rule(9, 3, 2, 1), aside(10, 3, 1), restore(11, 3, 1),
    ]

    def test_no_such_act(self):
        # 1 to 3 are keys of works and names.
        self.all_answered([(tally(key), [-6]) for key in KEYS_OF_NO_ACT + (1, 2, 3, 6, 12)])

    def test_no_reversal(self):
        self.all_answered([(tally(7), [0, 0, 0, 0, 0, 0])] + [(tally(key), [-14]) for key in (8, 9, 10, 11)])

    def test_nothing_kept(self):
        self.assertEqual(run([tally(1), tally(0)]), [[-6], [-6]])

    def test_keys_at_both_ends(self):
        telling = [CODE] + NAMES + [reverse(1, 3, 2, 1), reverse(1000000000, 3, 2, 1)]
        self.all_answered([
            (tally(1), [0, 0, 0, 0, 0, 0]), (tally(1000000000), [0, 0, 0, 0, 0, 0]), (tally(0), [-6]),
            (tally(1000000001), [-6]),
        ], telling)


if __name__ == "__main__":
    unittest.main()
