"""Acts that would run in a ring: which of them are locked."""

import unittest

from lines import aside, choice, code, name, order_at, reverse, rule, work

# A reversal is earned by age alone.
FREE = code(0, 0, 0, 1, 0)
DAY = 100


def scene(names, acts):
    """So many names of one work, older by their keys, works 11 to 19 of the days 11 to 19, and acts."""
    told = [FREE, work(1, 10)] + [work(key, key) for key in range(11, 20)]
    return told + [name(key, 1, key) for key in range(1, names + 1)] + acts


class TestTwoActs(unittest.TestCase):
    def test_a_ruling_goes_before_a_reversal(self):
        for acts in ([rule(9, 19, 1, 2), reverse(1, 11, 2, 1)], [reverse(1, 11, 2, 1), rule(9, 19, 1, 2)]):
            self.assertEqual(order_at(scene(2, acts), DAY), [1, 2])
            self.assertEqual(order_at(scene(2, acts), 18), [2, 1])

    def test_a_ruling_goes_before_a_choice(self):
        for acts in ([rule(9, 19, 1, 2), choice(1, 11, 2, 1)], [choice(1, 11, 2, 1), rule(9, 19, 1, 2)]):
            self.assertEqual(order_at(scene(2, acts), DAY), [1, 2])
            self.assertEqual(order_at(scene(2, acts), 18), [2, 1])

    def test_a_reversal_goes_before_a_choice(self):
        for acts in ([reverse(9, 19, 2, 1), choice(1, 11, 1, 2)], [choice(1, 11, 1, 2), reverse(9, 19, 2, 1)]):
            self.assertEqual(order_at(scene(2, acts), DAY), [2, 1])
            self.assertEqual(order_at(scene(2, acts), 18), [1, 2])

    def test_of_one_kind_the_earlier_goes_first(self):
        for call in (rule, choice):
            for acts in ([call(9, 11, 2, 1), call(1, 12, 1, 2)], [call(1, 12, 1, 2), call(9, 11, 2, 1)]):
                self.assertEqual(order_at(scene(2, acts), DAY), [2, 1])

    def test_of_one_day_the_lesser_key_goes_first(self):
        for call in (rule, choice):
            for acts in ([call(2, 11, 2, 1), call(10, 11, 1, 2)], [call(10, 11, 1, 2), call(2, 11, 2, 1)]):
                self.assertEqual(order_at(scene(2, acts), DAY), [2, 1])
            for acts in ([call(10, 11, 2, 1), call(2, 11, 1, 2)], [call(2, 11, 1, 2), call(10, 11, 2, 1)]):
                self.assertEqual(order_at(scene(2, acts), DAY), [1, 2])

    def test_of_one_day_the_key_of_the_work_does_not_matter(self):
        told = scene(2, [work(50, 11), rule(1, 50, 2, 1), rule(2, 11, 1, 2)])
        self.assertEqual(order_at(told, DAY), [2, 1])

    def test_reversals_by_day_and_key(self):
        # Two reversals can make a ring with a ruling only: of them the one asked first is locked.
        ring = [rule(50, 19, 1, 4), reverse(9, 11, 3, 1), reverse(1, 12, 4, 3)]
        self.assertEqual(order_at(scene(4, ring), DAY), [2, 3, 1, 4])
        ring = [rule(50, 19, 1, 4), reverse(9, 12, 3, 1), reverse(1, 11, 4, 3)]
        self.assertEqual(order_at(scene(4, ring), DAY), [1, 2, 4, 3])
        ring = [rule(50, 19, 1, 4), reverse(9, 11, 3, 1), reverse(1, 11, 4, 3)]
        self.assertEqual(order_at(scene(4, ring), DAY), [1, 2, 4, 3])
        ring = [rule(50, 19, 1, 4), reverse(1, 11, 3, 1), reverse(9, 11, 4, 3)]
        self.assertEqual(order_at(scene(4, ring), DAY), [2, 3, 1, 4])


class TestMoreActs(unittest.TestCase):
    def test_a_ring_of_three_breaks_at_the_last_asked(self):
        ring = [(2, 1), (3, 2), (1, 3)]
        wanted = {0: [1, 3, 2], 1: [2, 1, 3], 2: [3, 2, 1]}
        for last in range(3):
            acts = []
            for place, (a, b) in enumerate(ring):
                acts.append(rule(place + 1, 19 if place == last else 11, a, b))
            self.assertEqual(order_at(scene(3, acts), DAY), wanted[last])

    def test_a_ring_of_three_breaks_at_the_greatest_key(self):
        for keys, wanted in (((30, 1, 2), [1, 3, 2]), ((1, 30, 2), [2, 1, 3]), ((1, 2, 30), [3, 2, 1])):
            acts = [rule(keys[0], 11, 2, 1), rule(keys[1], 11, 3, 2), rule(keys[2], 11, 1, 3)]
            for told in (acts, acts[::-1]):
                self.assertEqual(order_at(scene(3, told), DAY), wanted)

    def test_a_ring_of_three_breaks_at_the_choice(self):
        acts = [choice(1, 11, 1, 3), rule(2, 19, 3, 2), reverse(3, 19, 2, 1)]
        self.assertEqual(order_at(scene(3, acts), 19), [3, 2, 1])
        self.assertEqual(order_at(scene(3, acts), 18), [1, 2, 3])

    def test_a_ring_through_all_names(self):
        acts = [rule(key, 11, key + 1, key) for key in range(1, 40)] + [rule(60, 11, 1, 40)]
        self.assertEqual(order_at(scene(40, acts), DAY), list(range(40, 0, -1)))
        acts = [rule(key + 1, 11, key + 1, key) for key in range(1, 40)] + [rule(1, 11, 1, 40)]
        # The last asked, 40 over 39, would close the ring.
        self.assertEqual(order_at(scene(40, acts), DAY), list(range(39, 0, -1)) + [40])

    def test_an_act_that_closes_a_ring_locks_nothing_itself(self):
        # 1 over 2 closes a ring, so 2 leads nowhere by it and 3 over 1 is free to be locked.
        acts = [rule(1, 11, 2, 1), rule(2, 12, 1, 2), rule(3, 13, 1, 3), rule(4, 14, 3, 2)]
        self.assertEqual(order_at(scene(3, acts), DAY), [2, 1, 3])
        acts = [rule(1, 11, 2, 1), rule(2, 12, 1, 2), rule(3, 13, 3, 2)]
        self.assertEqual(order_at(scene(3, acts), DAY), [3, 2, 1])

    def test_two_ways_round(self):
        # 4 leads to 1 by 2 and by 3; either way 1 over 4 closes a ring.
        acts = [rule(1, 11, 4, 2), rule(2, 11, 2, 1), rule(3, 11, 4, 3), rule(4, 11, 3, 1), choice(5, 11, 1, 4)]
        self.assertEqual(order_at(scene(4, acts), DAY), [4, 2, 3, 1])

    def test_a_way_that_meets_itself_again(self):
        # From 5 both ways meet in 2 and go on; 6 is not reached, so 6 over 5 is locked.
        acts = [
            rule(1, 11, 5, 3), rule(2, 11, 5, 4), rule(3, 11, 3, 2), rule(4, 11, 4, 2), rule(5, 11, 2, 1),
            rule(6, 11, 6, 5), rule(7, 11, 1, 6),
        ]
        self.assertEqual(order_at(scene(6, acts), DAY), [6, 5, 3, 4, 2, 1])

    def test_the_way_must_go_from_the_lower_to_the_upper(self):
        # 1 and 2 both lie under 3, which joins them but leads from neither to the other.
        acts = [rule(1, 11, 3, 1), rule(2, 11, 3, 2), rule(3, 11, 2, 1)]
        self.assertEqual(order_at(scene(3, acts), DAY), [3, 2, 1])

    def test_locked_acts_of_another_part_do_not_matter(self):
        acts = [rule(1, 11, 4, 3), rule(2, 11, 3, 4), rule(3, 11, 2, 1)]
        self.assertEqual(order_at(scene(4, acts), DAY), [2, 1, 4, 3])

    def test_a_name_set_aside_opens_the_ring(self):
        acts = [rule(1, 11, 2, 1), rule(2, 11, 3, 2), rule(3, 11, 1, 3), aside(4, 15, 2)]
        self.assertEqual(order_at(scene(3, acts), 14), [3, 2, 1])
        self.assertEqual(order_at(scene(3, acts), 15), [1, 3])


if __name__ == "__main__":
    unittest.main()
