"""Call 15: what has become of an act."""

import unittest

from cases import DAYS_OUT_OF_BOUNDS, KEYS_OF_NO_ACT, AskedCase
from lines import LAST_DAY, aside, choice, code, fate, name, restore, reverse, rule, run, use, work

# A reversal asks for one work that uses a, of the ten days up to its own, and for none from 50 on that uses b.
CODE = code(50, 1, 1, 10, 0)
WORKS = [work(key, key) for key in (10, 11, 20, 30, 40, 50, 60, 70)]
# 1 and 2 are of one day, 3 and 4 are younger.
NAMES = [name(1, 10, 1), name(2, 10, 2), name(3, 20), name(4, 40)]


class TestFateOfTwo(AskedCase):
    def fates(self, acts, key, days_and_fates):
        calls = [(fate(d, key), [wanted]) for d, wanted in days_and_fates]
        self.all_answered(calls, [CODE] + WORKS + NAMES + acts)

    def test_a_choice_that_is_locked(self):
        self.fates([choice(7, 30, 2, 1)], 7, ((0, 1), (29, 1), (30, 0), (31, 0), (LAST_DAY, 0)))

    def test_a_ruling_that_is_locked(self):
        self.fates([rule(7, 30, 3, 1)], 7, ((0, 1), (29, 1), (30, 0), (LAST_DAY, 0)))

    def test_a_reversal_that_is_locked(self):
        self.fates([use(30, 3), reverse(7, 30, 3, 1)], 7, ((0, 1), (29, 1), (30, 0), (LAST_DAY, 0)))

    def test_upper_name_does_not_stand(self):
        acts = [rule(7, 30, 2, 1), aside(1, 40, 2), restore(2, 60, 2)]
        self.fates(acts, 7, ((29, 1), (30, 0), (39, 0), (40, 2), (59, 2), (60, 0)))

    def test_lower_name_does_not_stand(self):
        acts = [rule(7, 30, 2, 1), aside(1, 40, 1), restore(2, 60, 1)]
        self.fates(acts, 7, ((29, 1), (30, 0), (39, 0), (40, 2), (59, 2), (60, 0)))

    def test_neither_name_stands(self):
        acts = [rule(7, 30, 2, 1), aside(1, 40, 1), aside(2, 50, 2), restore(3, 60, 1), restore(4, 70, 2)]
        self.fates(acts, 7, ((39, 0), (40, 2), (50, 2), (60, 2), (69, 2), (70, 0)))

    def test_a_name_that_has_not_come_out(self):
        for call in (rule, choice, reverse):
            later = {rule: 0, choice: 3, reverse: 4}[call]
            self.fates([call(7, 30, 4, 1)], 7, ((29, 1), (30, 2), (39, 2), (40, later)))
            self.fates([call(7, 30, 1, 4)], 7, ((29, 1), (30, 2), (39, 2), (40, later)))

    def test_each_kind_with_a_name_set_aside(self):
        for act in (choice(7, 30, 2, 1), reverse(7, 30, 2, 1), rule(7, 30, 2, 1)):
            for key in (1, 2):
                self.fates([use(30, 2), act, aside(1, 40, key)], 7, ((29, 1), (30, 0), (40, 2), (LAST_DAY, 2)))

    def test_a_choice_between_unlike_days(self):
        for a, b in ((1, 3), (3, 1)):
            self.fates([choice(7, 30, a, b)], 7, ((29, 1), (30, 3), (LAST_DAY, 3)))

    def test_a_choice_between_works_of_one_day(self):
        self.fates([work(5, 20), name(5, 5), choice(7, 30, 3, 5), choice(8, 30, 5, 3)], 7, ((30, 0),))
        self.fates([work(12, 11), name(5, 12), name(6, 11), choice(7, 30, 5, 6)], 7, ((29, 1), (30, 0)))

    def test_a_choice_of_names_a_day_apart(self):
        self.fates([name(5, 11), choice(7, 30, 1, 5), choice(8, 30, 5, 2)], 7, ((30, 3),))
        self.fates([name(5, 11), choice(7, 30, 1, 5), choice(8, 30, 5, 2)], 8, ((30, 3),))

    def test_a_reversal_that_is_not_earned(self):
        self.fates([reverse(7, 30, 3, 1)], 7, ((29, 1), (30, 4), (LAST_DAY, 4)))
        self.fates([use(60, 3), use(60, 1), reverse(7, 60, 3, 1)], 7, ((59, 1), (60, 4)))
        self.fates([use(30, 1), reverse(7, 30, 1, 3)], 7, ((29, 1), (30, 4)))

    def test_a_ruling_and_a_choice_ask_not_to_be_earned(self):
        self.fates([rule(7, 30, 1, 3), rule(8, 30, 2, 1)], 7, ((30, 0),))
        self.fates([choice(7, 30, 1, 2)], 7, ((30, 0),))

    def test_a_reversal_and_a_ruling_ask_not_for_one_day(self):
        self.fates([use(30, 3), reverse(7, 30, 3, 1), rule(8, 30, 3, 2)], 8, ((30, 0),))
        self.fates([use(30, 2), reverse(7, 30, 2, 1)], 7, ((30, 0),))

    def test_1_goes_before_2(self):
        self.fates([rule(7, 60, 2, 1), aside(1, 30, 2)], 7, ((20, 1), (30, 1), (59, 1), (60, 2)))
        self.fates([rule(7, 60, 4, 1)], 7, ((30, 1), (39, 1), (59, 1), (60, 0)))

    def test_1_goes_before_3_and_4(self):
        self.fates([choice(7, 60, 3, 1)], 7, ((59, 1), (60, 3)))
        self.fates([reverse(7, 60, 3, 1)], 7, ((59, 1), (60, 4)))

    def test_2_goes_before_3_and_4(self):
        for key in (1, 3):
            acts = [choice(7, 30, 3, 1), reverse(8, 30, 3, 1), aside(1, 40, key), restore(2, 50, key)]
            self.fates(acts, 7, ((30, 3), (40, 2), (50, 3)))
            self.fates(acts, 8, ((30, 4), (40, 2), (50, 4)))

    def test_1_goes_before_all(self):
        acts = [choice(7, 60, 3, 1), reverse(8, 60, 3, 1), aside(1, 40, 1), restore(2, 70, 1)]
        self.fates(acts, 7, ((40, 1), (59, 1), (60, 2), (70, 3)))
        self.fates(acts, 8, ((40, 1), (59, 1), (60, 2), (70, 4)))

    def test_a_choice_that_would_close_a_ring(self):
        self.fates([rule(1, 60, 1, 2), choice(7, 30, 2, 1)], 7, ((29, 1), (30, 0), (59, 0), (60, 5)))
        self.fates([choice(1, 30, 1, 2), choice(7, 60, 2, 1)], 7, ((59, 1), (60, 5)))

    def test_a_reversal_that_would_close_a_ring(self):
        acts = [use(30, 2), rule(1, 60, 1, 2), reverse(7, 30, 2, 1)]
        self.fates(acts, 7, ((29, 1), (30, 0), (59, 0), (60, 5)))

    def test_a_ruling_that_would_close_a_ring(self):
        acts = [rule(1, 60, 1, 3), rule(7, 60, 3, 1), aside(2, 70, 3)]
        self.fates(acts, 7, ((59, 1), (60, 5), (69, 5), (70, 2)))
        self.fates(acts, 1, ((59, 1), (60, 0), (69, 0), (70, 2)))

    def test_a_ring_of_three(self):
        acts = [rule(1, 30, 1, 2), rule(2, 30, 2, 3), rule(3, 30, 3, 1)]
        for key, wanted in ((1, 0), (2, 0), (3, 5)):
            self.fates(acts, key, ((30, wanted),))

    def test_what_hinders_goes_before_the_ring(self):
        acts = [rule(1, 30, 1, 3), choice(7, 30, 3, 1), reverse(8, 30, 3, 1)]
        self.fates(acts, 7, ((30, 3),))
        self.fates(acts, 8, ((30, 4),))
        self.fates([rule(1, 30, 1, 2), rule(7, 30, 2, 1), aside(2, 40, 1)], 7, ((30, 5), (40, 2)))

    def test_what_is_told_later(self):
        telling = [CODE] + WORKS + NAMES + [use(60, 3), reverse(7, 60, 3, 1)]
        given = run(telling + [fate(60, 7), use(50, 1), fate(60, 7), fate(59, 7)])
        self.assertEqual(given[-4:], [[0], [0], [4], [1]])


class TestFateOfOne(AskedCase):
    TELLING = WORKS + NAMES + [
        aside(5, 30, 1), restore(4, 40, 1), aside(9, 50, 1), restore(2, 50, 1), aside(3, 60, 1),
        aside(6, 60, 2), restore(7, 60, 2),
    ]

    def test_by_days(self):
        wanted = {
            5: ((29, 1), (30, 0), (39, 0), (40, 6), (LAST_DAY, 6)),
            4: ((0, 1), (39, 1), (40, 0), (49, 0), (50, 6), (LAST_DAY, 6)),
            3: ((50, 1), (59, 1), (60, 0), (LAST_DAY, 0)),
        }
        for key in wanted:
            self.all_answered([(fate(d, key), [answer]) for d, answer in wanted[key]])

    def test_of_one_day_the_greater_key_is_the_later(self):
        self.all_answered([
            (fate(49, 9), [1]), (fate(49, 2), [1]), (fate(50, 9), [0]), (fate(50, 2), [6]), (fate(59, 9), [0]),
            (fate(60, 9), [6]), (fate(60, 2), [6]), (fate(60, 6), [6]), (fate(60, 7), [0]), (fate(59, 7), [1]),
        ])

    def test_the_day_goes_before_the_key(self):
        telling = WORKS + NAMES + [aside(9, 30, 1), restore(2, 40, 1)]
        self.all_answered([(fate(40, 9), [6]), (fate(40, 2), [0]), (fate(39, 9), [0]), (fate(39, 2), [1])], telling)

    def test_acts_of_one_kind(self):
        for call in (aside, restore):
            telling = WORKS + NAMES + [call(1, 30, 1), call(2, 30, 1), call(3, 20, 1)]
            self.all_answered([
                (fate(19, 3), [1]), (fate(20, 3), [0]), (fate(30, 1), [6]), (fate(30, 2), [0]), (fate(30, 3), [6]),
            ], telling)

    def test_acts_about_other_names_do_not_matter(self):
        telling = WORKS + NAMES + [
            aside(1, 20, 1), restore(2, 30, 2), aside(3, 40, 3), rule(4, 50, 1, 2), choice(5, 50, 1, 2),
            reverse(6, 50, 1, 2),
        ]
        self.all_answered([(fate(LAST_DAY, 1), [0]), (fate(LAST_DAY, 2), [0]), (fate(LAST_DAY, 3), [0])], telling)

    def test_before_the_name_came_out(self):
        telling = WORKS + NAMES + [aside(1, 20, 4), restore(2, 30, 4)]
        self.all_answered([
            (fate(19, 1), [1]), (fate(20, 1), [0]), (fate(29, 2), [1]), (fate(30, 1), [6]), (fate(30, 2), [0]),
        ], telling)


class TestRefused(AskedCase):
    TELLING = WORKS + NAMES + [rule(7, 30, 2, 1), aside(8, 30, 3)]

    def test_a_day_out_of_bounds(self):
        for key in (7, 8):
            self.refused_at_days_out_of_bounds(lambda d: fate(d, key))

    def test_no_such_act(self):
        # 1, 2 and 3 are keys of names, 10 and 20 of works.
        for key in KEYS_OF_NO_ACT + (1, 2, 3, 6, 9, 10, 20):
            self.all_answered([(fate(0, key), [-6]), (fate(30, key), [-6]), (fate(LAST_DAY, key), [-6])])

    def test_order_of_refusals(self):
        for d in DAYS_OUT_OF_BOUNDS:
            self.all_answered([(fate(d, key), [-9]) for key in KEYS_OF_NO_ACT + (1, 10)])

    def test_a_refused_act_is_no_act(self):
        given = run(self.TELLING + [rule(9, 30, 1, 1), fate(30, 9), aside(9, 30, 77), fate(30, 9)])
        self.assertEqual(given[-4:], [[-10], [-6], [-6], [-6]])

    def test_nothing_kept(self):
        self.assertEqual(run([fate(0, 1), fate(LAST_DAY, 1), fate(LAST_DAY + 1, 1)]), [[-6], [-6], [-9]])

    def test_keys_at_both_ends(self):
        telling = WORKS + NAMES + [rule(1, 30, 2, 1), aside(1000000000, 30, 3)]
        self.all_answered([
            (fate(30, 1), [0]), (fate(30, 1000000000), [0]), (fate(30, 0), [-6]), (fate(30, 1000000001), [-6]),
        ], telling)


if __name__ == "__main__":
    unittest.main()
