"""Call 16: the locked acts with which an act would close a ring."""

import unittest

from cases import DAYS_OUT_OF_BOUNDS, KEYS_OF_NO_ACT, AskedCase
from lines import (
    LAST_DAY, aside, choice, code, fate, locked, name, restore, reverse, ring, rule, run, work,
)

DAY = 100


def scene(names, acts):
    """So many names of one work, older by their keys, works 11 to 19 of the days 11 to 19, and acts."""
    telling = [code(0, 0, 0, 1, 0), work(1, 10)] + [work(key, key) for key in range(11, 20)]
    return telling + [name(key, 1, key) for key in range(1, names + 1)] + acts


class TestRing(AskedCase):
    def ring_of(self, key, wanted, names, acts, d=DAY):
        self.all_answered([(fate(d, key), [5]), (ring(d, key), [0] + wanted)], scene(names, acts))
        self.all_answered([(ring(d, key), [0] + wanted)], scene(names, acts[::-1]))

    def test_of_one_act(self):
        self.ring_of(7, [3], 2, [rule(3, 11, 1, 2), rule(7, 12, 2, 1)])
        self.ring_of(7, [3], 2, [rule(3, 12, 1, 2), choice(7, 11, 2, 1)])
        self.ring_of(7, [3], 2, [rule(3, 12, 1, 2), reverse(7, 11, 2, 1)])
        self.ring_of(7, [3], 2, [reverse(3, 12, 2, 1), choice(7, 11, 1, 2)])

    def test_of_two_acts(self):
        # 3 over 1; 1 leads to 3 by 2.
        self.ring_of(9, [5, 4], 3, [rule(5, 11, 1, 2), rule(4, 12, 2, 3), rule(9, 13, 3, 1)])
        self.ring_of(9, [4, 5], 3, [rule(4, 12, 1, 2), rule(5, 11, 2, 3), rule(9, 13, 3, 1)])

    def test_of_all_kinds(self):
        # 3 over 2, 2 over 1, then 1 over 3 as a choice, which is asked last whatever its day.
        self.ring_of(1, [9, 8], 3, [rule(9, 19, 3, 2), reverse(8, 18, 2, 1), choice(1, 11, 1, 3)])

    def test_through_all_names(self):
        acts = [rule(key, 11, key, key + 1) for key in range(1, 40)] + [choice(60, 11, 40, 1)]
        self.ring_of(60, list(range(1, 40)), 40, acts)

    def test_the_fewest_acts(self):
        # 1 leads to 4 by 2 and 3, by 2, and straight.
        three = [rule(1, 11, 1, 2), rule(2, 11, 2, 3), rule(3, 11, 3, 4)]
        self.ring_of(50, [1, 2, 3], 4, three + [rule(50, 12, 4, 1)])
        self.ring_of(50, [1, 30], 4, three + [rule(30, 11, 2, 4), rule(50, 12, 4, 1)])
        self.ring_of(50, [1, 30], 4, three + [rule(30, 11, 2, 4), rule(31, 11, 1, 3), rule(50, 12, 4, 1)])
        self.ring_of(50, [4, 3], 4, three + [rule(4, 11, 1, 3), rule(50, 12, 4, 1)])
        self.ring_of(50, [40], 4, three + [rule(30, 11, 2, 4), rule(40, 11, 1, 4), rule(50, 12, 4, 1)])

    def test_of_as_few_the_first_key_is_least(self):
        # From 1 to 4 by 2 or by 3.
        last = [rule(50, 12, 4, 1)]
        ways = [rule(5, 11, 1, 2), rule(1, 11, 2, 4), rule(4, 11, 1, 3), rule(9, 11, 3, 4)]
        self.ring_of(50, [4, 9], 4, ways + last)
        ways = [rule(4, 11, 1, 2), rule(9, 11, 2, 4), rule(5, 11, 1, 3), rule(1, 11, 3, 4)]
        self.ring_of(50, [4, 9], 4, ways + last)

    def test_then_the_second_is_least(self):
        # From 1 to 5 by 2, then by 3 or 4.
        last = [rule(50, 12, 5, 1)]
        ways = [rule(9, 11, 1, 2), rule(7, 11, 2, 3), rule(1, 11, 3, 5), rule(6, 11, 2, 4), rule(8, 11, 4, 5)]
        self.ring_of(50, [9, 6, 8], 5, ways + last)
        ways = [rule(9, 11, 1, 2), rule(6, 11, 2, 3), rule(8, 11, 3, 5), rule(7, 11, 2, 4), rule(1, 11, 4, 5)]
        self.ring_of(50, [9, 6, 8], 5, ways + last)

    def test_then_the_third_is_least(self):
        ways = [rule(9, 11, 1, 2), rule(6, 11, 2, 3), rule(8, 11, 3, 4), rule(7, 11, 3, 4), rule(10, 11, 3, 4)]
        self.ring_of(50, [9, 6, 7], 4, ways + [rule(50, 12, 4, 1)])

    def test_the_least_first_key_must_lead_on_by_as_few(self):
        # By the act 1 the name 2 is reached, from which it is two acts more; by 8 and 9 it is two in all.
        ways = [rule(1, 11, 1, 2), rule(2, 11, 2, 3), rule(3, 11, 3, 5), rule(8, 11, 1, 4), rule(9, 11, 4, 5)]
        self.ring_of(50, [8, 9], 5, ways + [rule(50, 12, 5, 1)])
        # The act 1 sets 1 over 2, which leads nowhere.
        ways = [rule(1, 11, 1, 2), rule(8, 11, 1, 3), rule(9, 11, 3, 4)]
        self.ring_of(50, [8, 9], 4, ways + [rule(50, 12, 4, 1)])

    def test_several_acts_between_the_same_names(self):
        acts = [rule(8, 11, 1, 2), rule(6, 12, 1, 2), choice(2, 11, 1, 2), rule(7, 11, 1, 2)]
        self.ring_of(50, [6], 2, acts + [rule(50, 13, 2, 1)])
        self.ring_of(50, [2], 2, acts + [choice(50, 13, 2, 1)])

    def test_keys_are_compared_not_days_or_kinds(self):
        acts = [rule(8, 11, 1, 2), rule(6, 19, 1, 2), choice(50, 19, 2, 1)]
        self.ring_of(50, [6], 2, acts)
        # Each is locked ahead of the choice 50, the reversal behind the rulings.
        acts = [rule(30, 11, 3, 1), reverse(4, 19, 3, 2), rule(20, 11, 2, 1), choice(50, 19, 1, 3)]
        self.ring_of(50, [30], 3, acts)
        acts = [reverse(4, 19, 4, 2), rule(20, 11, 2, 1), rule(5, 11, 4, 3), rule(6, 11, 3, 1), choice(50, 19, 1, 4)]
        self.ring_of(50, [4, 20], 4, acts)

    def test_keys_are_compared_as_numbers(self):
        self.ring_of(50, [9], 2, [rule(10, 11, 1, 2), rule(9, 11, 1, 2), rule(50, 12, 2, 1)])
        self.ring_of(50, [999999999], 2, [
            rule(1000000000, 11, 1, 2), rule(999999999, 11, 1, 2), rule(50, 12, 2, 1),
        ])

    def test_acts_asked_later_do_not_count(self):
        # 3 over 1 closes a ring by 1 over 2 over 3; 1 over 3 is locked, but asked later.
        two = [rule(8, 11, 1, 2), rule(9, 11, 2, 3), rule(20, 12, 3, 1)]
        for later in (rule(1, 13, 1, 3), choice(1, 11, 1, 3), rule(21, 12, 1, 3)):
            self.ring_of(20, [8, 9], 3, two + [later])
        for earlier in (rule(1, 11, 1, 3), rule(19, 12, 1, 3)):
            self.ring_of(20, [earlier[1]], 3, two + [earlier])
        # A lesser key between the same names, but asked later.
        self.ring_of(20, [8, 9], 3, two + [rule(1, 13, 1, 2), rule(2, 13, 2, 3)])

    def test_acts_that_are_not_locked_do_not_count(self):
        # 1 over 3 (key 4) would close a ring with 3 over 1 (key 3), so 1 leads to 5 by 2 and 4 alone.
        acts = [
            rule(3, 11, 3, 1), rule(4, 12, 1, 3), rule(5, 12, 3, 5), rule(6, 12, 1, 2), rule(7, 12, 2, 4),
            rule(8, 12, 4, 5), rule(50, 13, 5, 1),
        ]
        self.ring_of(4, [3], 5, acts)
        self.ring_of(50, [6, 7, 8], 5, acts)

    def test_hindered_acts_do_not_count(self):
        two = [rule(8, 12, 1, 2), rule(9, 12, 2, 3), rule(20, 12, 3, 1)]
        self.ring_of(20, [8, 9], 3, two + [rule(1, 13, 1, 3)], 12)
        self.ring_of(20, [8, 9], 3, [reverse(1, 11, 1, 3)] + two)
        # From the day 14 on 2 does not stand, and 20 is locked.
        acts = two + [aside(30, 14, 2), restore(31, 15, 2)]
        telling = scene(3, acts)
        self.all_answered([
            (ring(11, 20), [-14]), (ring(12, 20), [0, 8, 9]), (ring(14, 20), [-14]), (ring(15, 20), [0, 8, 9]),
        ], telling)

    def test_at_each_day_its_own(self):
        acts = [
            rule(8, 11, 1, 2), rule(9, 11, 2, 3), choice(20, 12, 3, 1), rule(5, 13, 1, 3), rule(4, 14, 1, 3),
            aside(30, 15, 1),
        ]
        wanted = ((11, [-14]), (12, [0, 8, 9]), (13, [0, 5]), (14, [0, 4]), (15, [-14]), (LAST_DAY, [-14]))
        self.all_answered([(ring(d, 20), answer) for d, answer in wanted], scene(3, acts))

    def test_several_rings(self):
        acts = [rule(1, 11, 1, 2), rule(2, 11, 2, 3), rule(3, 12, 3, 2), rule(4, 12, 2, 1), rule(5, 12, 3, 1)]
        self.all_answered([
            (locked(DAY), [0, 1, 2]), (ring(DAY, 3), [0, 2]), (ring(DAY, 4), [0, 1]), (ring(DAY, 5), [0, 1, 2]),
        ], scene(3, acts))

    def test_it_ends_where_it_leads_past_the_upper_name(self):
        # 2 leads on to 3 and 4 too.
        acts = [rule(1, 11, 2, 3), rule(2, 11, 3, 4), rule(7, 11, 1, 2), rule(8, 12, 2, 1), rule(9, 12, 4, 1)]
        self.all_answered([(ring(DAY, 8), [0, 7]), (ring(DAY, 9), [0, 7, 1, 2])], scene(4, acts))

    def test_names_above_the_lower_name_do_not_matter(self):
        acts = [rule(1, 11, 3, 1), rule(2, 11, 4, 3), rule(7, 11, 1, 2), rule(8, 12, 2, 1), rule(9, 12, 2, 4)]
        self.all_answered([(ring(DAY, 8), [0, 7]), (ring(DAY, 9), [0, 2, 1, 7])], scene(4, acts))


class TestRefused(AskedCase):
    # Fates at the day 100: 1 to 4 are 0, 3, 4 and 2; 5 is 5; 6 and 7 are 6 and 0; 8 is 1.
    TELLING = scene(3, [
        work(20, 12), name(4, 20), work(21, 200), rule(1, 11, 1, 2), choice(2, 11, 1, 4), reverse(3, 11, 1, 2),
        rule(4, 11, 3, 1), rule(5, 11, 2, 1), aside(6, 11, 2), restore(7, 12, 2), aside(9, 11, 3), rule(8, 21, 2, 1),
    ])

    def test_a_day_out_of_bounds(self):
        for key in range(1, 9):
            self.refused_at_days_out_of_bounds(lambda d: ring(d, key))

    def test_no_such_act(self):
        # 11 to 21 are keys of works; there are names with the keys 1 to 4, but acts too.
        for key in KEYS_OF_NO_ACT + (10, 11, 20, 21):
            self.all_answered([(ring(0, key), [-6]), (ring(DAY, key), [-6]), (ring(LAST_DAY, key), [-6])])

    def test_fate_is_not_5(self):
        fates = ((1, 0), (2, 3), (3, 4), (4, 2), (6, 6), (7, 0), (8, 1), (9, 0))
        self.all_answered([(fate(DAY, key), [number]) for key, number in fates])
        self.all_answered([(ring(DAY, key), [-14]) for key, number in fates])

    def test_fate_is_5_at_some_days_alone(self):
        self.all_answered([
            (ring(10, 5), [-14]), (ring(11, 5), [-14]), (ring(12, 5), [0, 1]), (ring(DAY, 5), [0, 1]),
            (ring(199, 8), [-14]), (ring(200, 8), [0, 1]), (ring(LAST_DAY, 8), [0, 1]), (ring(0, 5), [-14]),
        ])

    def test_order_of_refusals(self):
        for d in DAYS_OUT_OF_BOUNDS:
            self.all_answered([(ring(d, key), [-9]) for key in KEYS_OF_NO_ACT + (1, 2, 5, 6)])

    def test_nothing_kept(self):
        self.assertEqual(run([ring(0, 1), ring(LAST_DAY, 1), ring(-1, 1)]), [[-6], [-6], [-9]])


if __name__ == "__main__":
    unittest.main()
