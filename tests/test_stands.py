"""Which names stand at a day."""

import unittest

from lines import LAST_DAY, aside, name, order, order_at, restore, rule, run, run_told, stands, work

WORKS = [work(key, key * 10) for key in range(1, 10)]


def standing(told, days, key=1):
    """Whether the name of that key stands at each of the days, as 0 and 1."""
    return [part[0] for part in run_told(WORKS + told, [stands(d, key) for d in days])]


class TestStands(unittest.TestCase):
    def test_from_its_own_day_on(self):
        self.assertEqual(standing([name(1, 2)], (0, 19, 20, 21, LAST_DAY)), [0, 0, 1, 1, 1])

    def test_days_at_both_ends(self):
        told = [work(1, 0), work(2, LAST_DAY), name(1, 1), name(2, 2)]
        asked = [stands(0, 1), stands(LAST_DAY - 1, 2), stands(LAST_DAY, 2), order(0), order(LAST_DAY)]
        self.assertEqual(run_told(told, asked), [[1], [0], [1], [0, 1], [0, 1, 2]])

    def test_a_day_out_of_bounds(self):
        for d in (-1, LAST_DAY + 1, 1000000000000, -1000000000000):
            for key in (1, 2, 0, -1):
                self.assertEqual(
                    run_told([work(1, 0), name(1, 1)], [stands(d, key), order(d), stands(0, 1), order(0)]),
                    [[-9], [-9], [1], [0, 1]],
                )
            self.assertEqual(run([stands(d, 1), order(d)]), [[-9], [-9]])

    def test_a_key_of_no_name(self):
        for key in (2, 3, 0, -1, 1000000001, 1000000000000, -1000000000000):
            self.assertEqual(standing([name(1, 2), name(5, 3), rule(3, 4, 1, 5)], (0, 20, LAST_DAY), key), [0, 0, 0])

    def test_nothing_kept(self):
        self.assertEqual(run([stands(0, 1), stands(LAST_DAY, 1), order(0)]), [[0], [0], [0]])

    def test_set_aside_and_restored(self):
        told = [name(1, 2), aside(1, 4, 1), restore(2, 6, 1)]
        self.assertEqual(standing(told, (19, 20, 39, 40, 59, 60, LAST_DAY)), [0, 1, 1, 0, 0, 1, 1])

    def test_set_aside_again(self):
        told = [name(1, 2), aside(1, 4, 1), restore(2, 6, 1), aside(3, 8, 1)]
        self.assertEqual(standing(told, (39, 40, 60, 79, 80, LAST_DAY)), [1, 0, 1, 1, 0, 0])

    def test_restored_only(self):
        self.assertEqual(standing([name(1, 2), restore(1, 4, 1)], (19, 20, 39, 40)), [0, 1, 1, 1])

    def test_told_in_another_order_than_their_days(self):
        told = [name(1, 2), restore(1, 8, 1), aside(9, 4, 1), restore(3, 3, 1)]
        self.assertEqual(standing(told, (20, 30, 39, 40, 79, 80)), [1, 1, 1, 0, 0, 1])

    def test_the_day_goes_before_the_key(self):
        told = [name(1, 2), aside(9, 4, 1), restore(1, 5, 1)]
        self.assertEqual(standing(told, (39, 40, 49, 50)), [1, 0, 0, 1])

    def test_on_one_day_the_greater_key_is_later(self):
        for told in ([aside(1, 4, 1), restore(2, 4, 1)], [restore(2, 4, 1), aside(1, 4, 1)]):
            self.assertEqual(standing([name(1, 2)] + told, (39, 40, 41)), [1, 1, 1])
        for told in ([aside(2, 4, 1), restore(1, 4, 1)], [restore(1, 4, 1), aside(2, 4, 1)]):
            self.assertEqual(standing([name(1, 2)] + told, (39, 40, 41)), [1, 0, 0])

    def test_one_day_of_two_works(self):
        told = [work(50, 40), name(1, 2), aside(7, 4, 1), restore(6, 50, 1)]
        self.assertEqual(standing(told, (39, 40)), [1, 0])
        told = [work(50, 40), name(1, 2), aside(7, 50, 1), restore(8, 4, 1)]
        self.assertEqual(standing(told, (39, 40)), [1, 1])

    def test_set_aside_before_its_own_day(self):
        self.assertEqual(standing([name(1, 4), aside(1, 2, 1)], (20, 39, 40, 50)), [0, 0, 0, 0])
        self.assertEqual(standing([name(1, 4), aside(1, 2, 1), restore(2, 5, 1)], (20, 40, 49, 50)), [0, 0, 0, 1])

    def test_restored_before_its_own_day(self):
        self.assertEqual(standing([name(1, 4), restore(1, 2, 1)], (20, 39, 40)), [0, 0, 1])

    def test_acts_about_another_name(self):
        told = [name(1, 2), name(2, 2), aside(1, 4, 2)]
        self.assertEqual(standing(told, (40,), 1), [1])
        self.assertEqual(standing(told, (40,), 2), [0])

    def test_acts_of_other_kinds_do_not_matter(self):
        told = [name(1, 2), name(2, 2), aside(1, 4, 1), rule(2, 5, 1, 2), rule(3, 5, 2, 1)]
        self.assertEqual(standing(told, (39, 40, 50)), [1, 0, 0])

    def test_order_holds_just_what_stands(self):
        told = WORKS + [name(1, 1), name(2, 2), name(3, 3), aside(1, 4, 2), restore(2, 6, 2)]
        self.assertEqual(order_at(told, 9), [])
        self.assertEqual(order_at(told, 10), [1])
        self.assertEqual(order_at(told, 39), [1, 2, 3])
        self.assertEqual(order_at(told, 40), [1, 3])
        self.assertEqual(order_at(told, 60), [1, 2, 3])


if __name__ == "__main__":
    unittest.main()
