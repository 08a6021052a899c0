"""Calls 0 to 8: what they take, what they refuse, and in which order."""

import unittest

from lines import (
    GREATEST, LAST_DAY, aside, choice, code, name, order, restore, reverse, rule, run, run_told, stands, told, use,
    work,
)

FAR = 1000000000000

# Three names of unlike days, two of one day, and an act of each kind; the code is such that the
# reversal is earned by just what is told.
SCENE = [
    code(500, 2, 2, 100, 10),
    work(1, 100, 1), work(2, 200, 2), work(3, 300, 3), work(4, 590, 4), work(5, 600, 5),
    name(1, 1, 5), name(2, 2, 5), name(3, 3, 5), name(4, 3, 6),
    use(4, 2), use(5, 2), use(1, 1),
    reverse(1, 5, 2, 1), choice(2, 5, 4, 3), rule(3, 5, 4, 2), aside(4, 4, 3), restore(5, 5, 3),
]

# What would answer otherwise if a refused call had kept something.
PROBES = (
    [told()]
    + [order(d) for d in (100, 200, 300, 590, 600, LAST_DAY)]
    + [stands(LAST_DAY, key) for key in (0, 1, 2, 3, 4, 5, 6, 7)]
    + [work(key, 150, 9) for key in (1, 5, 6, 7, GREATEST)]
    + [name(key, 6, 9) for key in (1, 4, 5, 6, 7, GREATEST)]
    + [use(key, other) for key in (1, 2, 3, 4, 5, 6, 7) for other in (1, 2, 3, 4, 5, 6)]
    + [order(600)]
    + [aside(key, 4, 4) for key in (1, 5, 6, 7, 8, GREATEST)]
    + [order(600)]
)


class RefusalCase(unittest.TestCase):
    def refused(self, call, number, telling=SCENE):
        """The call is refused with that number, and what follows is as if it had not been there."""
        without = run_told(telling, PROBES)
        given = run_told(telling, [call] + PROBES)
        self.assertEqual(given[0], [number], call)
        self.assertEqual(given[1:], without, call)

    def taken(self, call, telling=SCENE):
        self.assertEqual(run_told(telling, [call]), [[0]], call)


class TestCode(RefusalCase):
    def test_taken_at_both_ends(self):
        for call in (
            code(0, 0, 0, 1, 0), code(LAST_DAY, 1000, 1000, LAST_DAY + 1, LAST_DAY),
            code(73048, 25, 10, 18262, 3652),
        ):
            self.taken(call, [])

    def test_may_be_told_again_while_there_is_no_work(self):
        self.assertEqual(run([code(1, 2, 3, 4, 5), code(5, 4, 3, 2, 1), code(0, 0, 0, 1, 0)]), [[0], [0], [0]])

    def test_each_bound(self):
        good = (10, 10, 10, 10, 10)
        bad = (
            (0, (-1, LAST_DAY + 1)), (1, (-1, 1001)), (2, (-1, 1001)), (3, (0, -1, LAST_DAY + 2)),
            (4, (-1, LAST_DAY + 1)),
        )
        for place, numbers in bad:
            for number in numbers + (FAR, -FAR):
                given = list(good)
                given[place] = number
                self.refused(code(*given), -9, [])
                self.refused(code(*given), -9)

    def test_not_behind_a_work(self):
        self.refused(code(0, 0, 0, 1, 0), -16)
        self.refused(code(0, 0, 0, 1, 0), -16, [work(1, 0)])
        self.refused(code(LAST_DAY, 1000, 1000, LAST_DAY + 1, LAST_DAY), -16)

    def test_a_refused_work_is_no_work(self):
        self.assertEqual(run([work(0, 0), work(1, -1), code(0, 0, 0, 1, 0)]), [[-4], [-9], [0]])


class TestWork(RefusalCase):
    def test_taken_at_both_ends(self):
        for call in (work(6, 50, 7), work(GREATEST, 0, 1), work(6, LAST_DAY, GREATEST)):
            self.taken(call)
        self.taken(work(1, 0, 1), [])

    def test_key_out_of_bounds(self):
        for key in (0, -1, GREATEST + 1, FAR, -FAR):
            self.refused(work(key, 5, 5), -4)

    def test_day_out_of_bounds(self):
        for day in (-1, LAST_DAY + 1, FAR, -FAR):
            self.refused(work(6, day, 5), -9)

    def test_author_out_of_bounds(self):
        for author in (0, -1, GREATEST + 1, FAR, -FAR):
            self.refused(work(6, 5, author), -9)

    def test_known_already(self):
        self.refused(work(1, 5, 5), -5)
        self.refused(work(5, 600, 5), -5)

    def test_keys_are_apart_from_those_of_names_and_acts(self):
        telling = [work(9, 1), name(7, 9), name(8, 9), rule(6, 9, 7, 8)]
        for key in (6, 7, 8):
            self.taken(work(key, 5, 5), telling)

    def test_order_of_refusals(self):
        self.refused(work(0, -1, 0), -4)
        self.refused(work(1, -1, 5), -9)
        self.refused(work(1, 5, 0), -9)

    def test_at_most_80(self):
        telling = [work(key, 5) for key in range(1, 80)]
        self.assertEqual(
            run_told(telling, [work(0, 5), work(1, 5), work(80, 5), work(81, 5), name(1, 80), name(2, 81)]),
            [[-4], [-5], [0], [-8], [0], [-6]],
        )

    def test_refusals_before_full(self):
        telling = [work(key, 5) for key in range(1, 81)]
        self.assertEqual(
            run_told(telling, [work(81, 5), work(0, 5), work(81, -1), work(81, 5, 0), work(80, 5)]),
            [[-8], [-4], [-9], [-9], [-5]],
        )


class TestName(RefusalCase):
    def test_taken_at_both_ends(self):
        for call in (name(5, 1, 5), name(GREATEST, 5, 1), name(6, 1, 1000000)):
            self.taken(call)
        self.taken(name(1, 7, 1), [work(7, 5)])

    def test_key_out_of_bounds(self):
        for key in (0, -1, GREATEST + 1, FAR, -FAR):
            self.refused(name(key, 1, 5), -4)

    def test_page_out_of_bounds(self):
        for page in (0, -1, 1000001, FAR, -FAR):
            self.refused(name(6, 1, page), -9)

    def test_known_already(self):
        self.refused(name(1, 2, 7), -5)
        self.refused(name(4, 3, 6), -5)

    def test_no_such_work(self):
        for key in (0, -1, 6, GREATEST, FAR, -FAR):
            self.refused(name(6, key, 5), -6)

    def test_names_of_one_work_and_page(self):
        self.taken(name(6, 3, 5))

    def test_keys_are_apart_from_those_of_works_and_acts(self):
        telling = [work(9, 1), name(7, 9), name(8, 9), rule(6, 9, 7, 8)]
        for key in (6, 9):
            self.taken(name(key, 9), telling)

    def test_order_of_refusals(self):
        self.refused(name(0, 77, 0), -4)
        self.refused(name(1, 77, 0), -9)
        self.refused(name(1, 77, 5), -5)

    def test_at_most_40(self):
        telling = [work(1, 5)] + [name(key, 1) for key in range(1, 40)]
        self.assertEqual(
            run_told(telling, [name(0, 1), name(40, 1), name(41, 1), use(1, 40), use(1, 41), stands(5, 41)]),
            [[-4], [0], [-8], [0], [-6], [0]],
        )

    def test_refusals_before_full(self):
        telling = [work(1, 5)] + [name(key, 1) for key in range(1, 41)]
        self.assertEqual(
            run_told(telling, [name(41, 1), name(0, 1), name(41, 1, 0), name(40, 1), name(41, 2)]),
            [[-8], [-4], [-9], [-5], [-6]],
        )


class TestUse(RefusalCase):
    def test_taken(self):
        self.taken(use(2, 1))
        self.taken(use(5, 4))

    def test_a_work_may_use_its_own_name(self):
        self.taken(use(2, 2))

    def test_no_such_work_or_name(self):
        for key in (0, -1, 6, FAR, -FAR):
            self.refused(use(key, 1), -6)
        for key in (0, -1, 5, FAR, -FAR):
            self.refused(use(5, key), -6)

    def test_not_before_the_day_of_the_name(self):
        telling = [work(1, 10), work(2, 9), work(3, 10), work(4, 11), name(1, 1)]
        self.assertEqual(run_told(telling, [use(2, 1), use(3, 1), use(4, 1)]), [[-15], [0], [0]])
        self.refused(use(1, 2), -15)
        self.refused(use(4, 1), -15, [work(4, 0), work(1, LAST_DAY), name(1, 1)])

    def test_kept_already(self):
        self.refused(use(4, 2), -5)
        self.refused(use(1, 1), -5)

    def test_order_of_refusals(self):
        self.refused(use(77, 2), -6)
        self.refused(use(1, 77), -6)

    def test_at_most_200(self):
        telling = [work(key, 5) for key in range(1, 9)] + [name(key, 1) for key in range(1, 27)]
        pairs = [use(key, other) for key in range(1, 9) for other in range(1, 27)]
        telling = telling + pairs[:199]
        self.assertEqual(
            run_told(telling, [pairs[0], pairs[199], pairs[200], pairs[199]]), [[-5], [0], [-8], [-5]],
        )

    def test_refusals_before_full(self):
        telling = [work(key, 5) for key in range(1, 9)] + [name(key, 1) for key in range(1, 27)] + [work(9, 4)]
        pairs = [use(key, other) for key in range(1, 9) for other in range(1, 27)]
        telling = telling + pairs[:200]
        self.assertEqual(
            run_told(telling, [pairs[200], use(10, 1), use(1, 27), use(9, 1), pairs[0]]),
            [[-8], [-6], [-6], [-15], [-5]],
        )


class TestActsOfTwoNames(RefusalCase):
    CALLS = (choice, reverse, rule)

    def test_taken_at_both_ends(self):
        for call in self.CALLS:
            self.taken(call(6, 5, 1, 2))
            self.taken(call(GREATEST, 1, 4, 3))
            self.taken(call(1, 7, 2, 1), [work(7, 5), name(1, 7), name(2, 7)])

    def test_key_out_of_bounds(self):
        for call in self.CALLS:
            for key in (0, -1, GREATEST + 1, FAR, -FAR):
                self.refused(call(key, 5, 1, 2), -4)

    def test_known_already_whatever_the_kind(self):
        for call in self.CALLS:
            for key in (1, 2, 3, 4, 5):
                self.refused(call(key, 5, 1, 3), -5)

    def test_no_such_work_or_name(self):
        for call in self.CALLS:
            for key in (0, -1, 6, FAR, -FAR):
                self.refused(call(6, key, 1, 2), -6)
                self.refused(call(6, 5, key, 2), -6)
                self.refused(call(6, 5, 1, key), -6)

    def test_the_same_names(self):
        for call in self.CALLS:
            self.refused(call(6, 5, 1, 1), -10)
            self.refused(call(6, 1, 4, 4), -10)

    def test_keys_are_apart_from_those_of_works_and_names(self):
        for call in self.CALLS:
            self.taken(call(7, 7, 7, 8), [work(7, 1), name(7, 7), name(8, 7)])
            self.taken(call(8, 7, 7, 8), [work(7, 1), name(7, 7), name(8, 7)])

    def test_order_of_refusals(self):
        for call in self.CALLS:
            self.refused(call(0, 77, 77, 77), -4)
            self.refused(call(1, 77, 77, 77), -5)
            self.refused(call(1, 5, 2, 2), -5)
            self.refused(call(6, 77, 2, 2), -6)
            self.refused(call(6, 5, 77, 77), -6)

    def test_the_act_may_be_earlier_than_its_names(self):
        for call in self.CALLS:
            self.taken(call(6, 1, 4, 3))

    def test_the_same_act_may_be_told_with_another_key(self):
        for call in self.CALLS:
            self.taken(call(6, 5, 2, 1), SCENE)


class TestActsOfOneName(RefusalCase):
    CALLS = (aside, restore)

    def test_taken_at_both_ends(self):
        for call in self.CALLS:
            self.taken(call(6, 5, 1))
            self.taken(call(GREATEST, 1, 4))
            self.taken(call(1, 7, 1), [work(7, 5), name(1, 7)])

    def test_key_out_of_bounds(self):
        for call in self.CALLS:
            for key in (0, -1, GREATEST + 1, FAR, -FAR):
                self.refused(call(key, 5, 1), -4)

    def test_known_already_whatever_the_kind(self):
        for call in self.CALLS:
            for key in (1, 2, 3, 4, 5):
                self.refused(call(key, 5, 1), -5)

    def test_no_such_work_or_name(self):
        for call in self.CALLS:
            for key in (0, -1, 6, FAR, -FAR):
                self.refused(call(6, key, 1), -6)
                self.refused(call(6, 5, key), -6)

    def test_order_of_refusals(self):
        for call in self.CALLS:
            self.refused(call(0, 77, 77), -4)
            self.refused(call(1, 77, 1), -5)
            self.refused(call(1, 5, 77), -5)


class TestMostActs(unittest.TestCase):
    TOLD = [work(1, 5), name(1, 1), name(2, 1)]
    MAKERS = (
        lambda key: choice(key, 1, 1, 2), lambda key: reverse(key, 1, 1, 2), lambda key: rule(key, 1, 1, 2),
        lambda key: aside(key, 1, 1), lambda key: restore(key, 1, 1),
    )

    def filled(self, how_many):
        return self.TOLD + [self.MAKERS[key % 5](key) for key in range(1, how_many + 1)]

    def test_at_most_60_of_all_kinds_together(self):
        for make in self.MAKERS:
            self.assertEqual(
                run_told(self.filled(59), [make(0), make(59), make(60), make(61), make(60)]),
                [[-4], [-5], [0], [-8], [-5]],
            )

    def test_a_refused_act_does_not_count(self):
        telling = self.filled(60)
        for make in self.MAKERS:
            given = run_told(telling, [order(5), make(61), order(5), stands(5, 1)])
            self.assertEqual(given[1], [-8])
            self.assertEqual([given[0], given[2], given[3]], run_told(telling, [order(5), order(5), stands(5, 1)]))

    def test_refusals_before_full(self):
        for call in (choice, reverse, rule):
            self.assertEqual(
                run_told(self.filled(60), [
                    call(61, 1, 1, 2), call(0, 1, 1, 2), call(60, 1, 1, 2), call(61, 2, 1, 2), call(61, 1, 3, 2),
                    call(61, 1, 1, 3), call(61, 1, 1, 1),
                ]),
                [[-8], [-4], [-5], [-6], [-6], [-6], [-10]],
            )
        for call in (aside, restore):
            self.assertEqual(
                run_told(self.filled(60), [
                    call(61, 1, 1), call(0, 1, 1), call(60, 1, 1), call(61, 2, 1), call(61, 1, 3),
                ]),
                [[-8], [-4], [-5], [-6], [-6]],
            )


if __name__ == "__main__":
    unittest.main()
