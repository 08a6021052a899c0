"""The order of precedence: moments, hindrances 1 to 3, and what a locked act holds back."""

import unittest

from lines import aside, choice, name, order, order_at, restore, reverse, rule, run_told, work


class TestAge(unittest.TestCase):
    def test_by_the_day(self):
        told = [work(1, 30), work(2, 20), work(3, 10), name(1, 1, 1), name(2, 2, 2), name(3, 3, 3)]
        self.assertEqual(order_at(told, 30), [3, 2, 1])

    def test_by_the_key_of_the_work_on_one_day(self):
        told = [work(9, 10), work(8, 10), work(7, 10), name(1, 9, 1), name(2, 8, 2), name(3, 7, 3)]
        self.assertEqual(order_at(told, 10), [3, 2, 1])

    def test_by_the_page_in_one_work(self):
        told = [work(1, 10), name(1, 1, 9), name(2, 1, 8), name(3, 1, 7)]
        self.assertEqual(order_at(told, 10), [3, 2, 1])

    def test_by_the_key_on_one_page(self):
        told = [work(1, 10), name(3, 1, 5), name(1, 1, 5), name(20, 1, 5), name(2, 1, 5)]
        self.assertEqual(order_at(told, 10), [1, 2, 3, 20])

    def test_numbers_are_not_compared_as_texts(self):
        told = [work(10, 9), work(9, 10), work(100, 9), name(1, 10, 10), name(2, 10, 9), name(3, 9), name(4, 100)]
        self.assertEqual(order_at(told, 10), [2, 1, 4, 3])

    def test_the_author_does_not_matter(self):
        told = [work(1, 10, 9), work(2, 10, 1), name(1, 1), name(2, 2)]
        self.assertEqual(order_at(told, 10), [1, 2])


class TestLockedActs(unittest.TestCase):
    EXAMPLE = [
        work(1, 1820), work(2, 1850), work(3, 1900), work(4, 1910),
        name(20, 1), name(30, 2), name(10, 3), rule(1, 4, 10, 20),
    ]

    def test_the_example_of_the_document(self):
        asked = [order(d) for d in (1819, 1820, 1850, 1900, 1909, 1910, 1950)]
        self.assertEqual(
            run_told(self.EXAMPLE, asked),
            [[0], [0, 20], [0, 20, 30], [0, 20, 30, 10], [0, 20, 30, 10], [0, 30, 10, 20], [0, 30, 10, 20]],
        )

    def test_an_act_along_the_age_changes_nothing(self):
        told = [work(1, 10), work(2, 20), work(3, 30), name(1, 1), name(2, 2), name(3, 3), rule(1, 3, 1, 3)]
        self.assertEqual(order_at(told, 30), [1, 2, 3])

    def test_a_chain(self):
        told = [work(1, 10)] + [name(key, 1, key) for key in range(1, 6)]
        told = told + [rule(1, 1, 4, 1), rule(2, 1, 1, 2), rule(3, 1, 2, 3)]
        self.assertEqual(order_at(told, 10), [4, 1, 2, 3, 5])

    def test_a_name_waits_for_all_that_are_set_over_it(self):
        told = [work(1, 10)] + [name(key, 1, key) for key in range(1, 6)]
        told = told + [rule(1, 1, 3, 1), rule(2, 1, 5, 1)]
        self.assertEqual(order_at(told, 10), [2, 3, 4, 5, 1])

    def test_a_freed_older_name_goes_at_once(self):
        told = [work(1, 10)] + [name(key, 1, key) for key in range(1, 6)]
        told = told + [rule(1, 1, 3, 1), rule(2, 1, 3, 2)]
        self.assertEqual(order_at(told, 10), [3, 1, 2, 4, 5])

    def test_the_same_act_twice(self):
        told = [work(1, 10), name(1, 1, 1), name(2, 1, 2), rule(1, 1, 2, 1), rule(2, 1, 2, 1), choice(3, 1, 2, 1)]
        self.assertEqual(order_at(told, 10), [2, 1])

    def test_a_chain_through_all_names(self):
        told = [work(1, 10)] + [name(key, 1, key) for key in range(1, 41)]
        told = told + [rule(key, 1, key + 1, key) for key in range(1, 40)]
        self.assertEqual(order_at(told, 10), list(range(40, 0, -1)))


class TestHindrances(unittest.TestCase):
    def test_1_the_act_is_later_than_the_day(self):
        for call in (choice, rule):
            told = [work(1, 10), work(2, 20), name(1, 1, 1), name(2, 1, 2), call(1, 2, 2, 1)]
            self.assertEqual(order_at(told, 19), [1, 2])
            self.assertEqual(order_at(told, 20), [2, 1])

    def test_1_an_act_to_come_locks_nothing(self):
        told = [work(1, 10), work(2, 20), work(3, 30), name(1, 1, 1), name(2, 1, 2)]
        told = told + [rule(1, 3, 1, 2), choice(2, 2, 2, 1)]
        self.assertEqual(order_at(told, 29), [2, 1])
        self.assertEqual(order_at(told, 30), [1, 2])

    def ring_of_three(self, off):
        """Rulings 1 over 2, 2 over 3, 3 over 1, and what is told of name 2 besides."""
        told = [work(1, 10), work(2, 20), work(3, 30), name(1, 1, 1), name(2, 1, 2), name(3, 1, 3)]
        return told + [rule(1, 1, 1, 2), rule(2, 1, 2, 3), rule(3, 1, 3, 1)] + off

    def test_2_a_name_that_does_not_stand_locks_nothing(self):
        self.assertEqual(order_at(self.ring_of_three([]), 20), [1, 2, 3])
        told = self.ring_of_three([aside(8, 2, 2)])
        self.assertEqual(order_at(told, 19), [1, 2, 3])
        self.assertEqual(order_at(told, 20), [3, 1])
        told = self.ring_of_three([aside(8, 2, 2), restore(9, 3, 2)])
        self.assertEqual(order_at(told, 29), [3, 1])
        self.assertEqual(order_at(told, 30), [1, 2, 3])

    def test_2_the_upper_name_alone_does_not_stand(self):
        told = [work(1, 10), work(2, 20), name(1, 1, 1), name(2, 1, 2), name(3, 1, 3)]
        told = told + [rule(1, 1, 2, 1), aside(2, 2, 2)]
        self.assertEqual(order_at(told, 10), [2, 1, 3])
        self.assertEqual(order_at(told, 20), [1, 3])

    def test_2_the_lower_name_alone_does_not_stand(self):
        told = [work(1, 10), work(2, 20), name(1, 1, 1), name(2, 1, 2), name(3, 1, 3)]
        told = told + [rule(1, 1, 3, 1), rule(2, 1, 1, 2), rule(3, 1, 2, 3), aside(4, 2, 1)]
        self.assertEqual(order_at(told, 10), [3, 1, 2])
        self.assertEqual(order_at(told, 20), [2, 3])

    def test_2_a_name_has_not_come_out_yet(self):
        told = [work(1, 10), work(2, 20), name(1, 1, 1), name(3, 1, 3), name(2, 2, 2)]
        told = told + [rule(1, 1, 1, 2), rule(2, 1, 2, 3), rule(3, 1, 3, 1)]
        self.assertEqual(order_at(told, 19), [3, 1])
        self.assertEqual(order_at(told, 20), [1, 2, 3])

    def test_3_a_choice_between_names_of_unlike_days(self):
        told = [work(1, 10), work(2, 11), work(3, 20), name(1, 1), name(2, 2)]
        self.assertEqual(order_at(told + [choice(1, 3, 2, 1)], 20), [1, 2])
        self.assertEqual(order_at(told + [rule(1, 3, 2, 1)], 20), [2, 1])

    def test_3_a_choice_between_names_of_one_day(self):
        told = [work(1, 10), work(2, 10), work(3, 20), name(1, 1), name(2, 2), name(3, 1, 9)]
        self.assertEqual(order_at(told + [choice(1, 3, 2, 1)], 20), [3, 2, 1])
        self.assertEqual(order_at(told + [choice(1, 3, 3, 1)], 20), [3, 1, 2])

    def test_3_a_hindered_choice_locks_nothing(self):
        told = [work(1, 10), work(2, 11), name(1, 1, 1), name(2, 1, 2), name(3, 2, 1)]
        told = told + [choice(1, 2, 1, 3), choice(2, 2, 3, 2), choice(3, 2, 2, 1)]
        self.assertEqual(order_at(told, 11), [2, 1, 3])

    def test_4_a_reversal_that_is_not_earned(self):
        told = [work(1, 10), work(2, 20), name(1, 1), name(2, 2), reverse(1, 2, 2, 1)]
        self.assertEqual(order_at(told, 20), [1, 2])

    def test_acts_on_single_names_set_nothing_over_another(self):
        told = [work(1, 10), work(2, 20), name(1, 1, 1), name(2, 1, 2), restore(1, 2, 2), restore(2, 2, 1)]
        self.assertEqual(order_at(told, 20), [1, 2])


if __name__ == "__main__":
    unittest.main()
