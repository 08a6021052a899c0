"""When a reversal is earned (name 2 is set over the older name 1)."""

import unittest

from lines import LAST_DAY, aside, choice, code, name, order, order_at, restore, reverse, rule, run_told, use, work

# A reversal of the day 2000 asks for uses of the days 1901 to 2000.
CODE = code(1000, 2, 2, 100, 10)
D = 2000
NAMES = [work(1, 10, 50), work(2, 20, 60), work(3, D, 70), name(1, 1), name(2, 2)]
ACT = [reverse(1, 3, 2, 1)]
REVERSED = [2, 1]
BY_AGE = [1, 2]


def uses_of(name_key, days_and_authors, first_key=100):
    """A new work for each day and author, which uses the name."""
    told = []
    for place, (day, author) in enumerate(days_and_authors):
        told.append(work(first_key + place, day, author))
        told.append(use(first_key + place, name_key))
    return told


class TestEarned(unittest.TestCase):
    def earned(self, told, the_code=CODE, d=D):
        given = order_at([the_code] + NAMES + told + ACT, d)
        self.assertIn(given, (REVERSED, BY_AGE))
        return given == REVERSED

    def test_just_earned(self):
        self.assertTrue(self.earned(uses_of(2, [(1950, 1), (1960, 2)])))

    def test_number_of_works(self):
        asks = code(1000, 3, 2, 100, 10)
        self.assertTrue(self.earned(uses_of(2, [(1950, 1), (1955, 1), (1960, 2)]), asks))
        self.assertFalse(self.earned(uses_of(2, [(1950, 1), (1960, 2)]), asks))

    def test_works_that_use_another_name_do_not_count(self):
        other = [work(90, 15, 90), name(3, 90)]
        told = other + uses_of(2, [(1950, 1)]) + uses_of(3, [(1960, 2)], 200)
        given = order_at([CODE] + NAMES + told + ACT, D)
        self.assertEqual(given, [1, 3, 2])

    def test_a_work_without_a_use_does_not_count(self):
        self.assertFalse(self.earned(uses_of(2, [(1950, 1)]) + [work(90, 1960, 2)]))
        self.assertTrue(self.earned(uses_of(2, [(1950, 1)]) + [work(90, 1960, 2), use(90, 2)]))

    def test_the_work_of_the_name_or_of_the_act_is_no_use_unless_told(self):
        self.assertFalse(self.earned(uses_of(2, [(1950, 1)])))
        self.assertTrue(self.earned(uses_of(2, [(1950, 1)]) + [use(3, 2)]))

    def test_number_of_unlike_authors(self):
        asks = code(1000, 2, 3, 100, 10)
        self.assertTrue(self.earned(uses_of(2, [(1950, 1), (1955, 3), (1960, 2)]), asks))
        self.assertFalse(self.earned(uses_of(2, [(1950, 1), (1955, 1), (1960, 2)]), asks))
        self.assertFalse(self.earned(uses_of(2, [(1950, 1), (1960, 1)])))

    def test_span(self):
        self.assertTrue(self.earned(uses_of(2, [(1950, 1), (1960, 2)])))
        self.assertFalse(self.earned(uses_of(2, [(1950, 1), (1959, 2)])))
        self.assertTrue(self.earned(uses_of(2, [(1960, 1), (1955, 2), (1950, 3)])))
        self.assertFalse(self.earned(uses_of(2, [(1955, 1), (1959, 2), (1950, 3)])))

    def test_span_is_0_without_works(self):
        self.assertTrue(self.earned([], code(1000, 0, 0, 100, 0)))
        self.assertFalse(self.earned([], code(1000, 0, 0, 100, 1)))
        self.assertFalse(self.earned([], code(1000, 0, 1, 100, 0)))
        self.assertFalse(self.earned([], code(1000, 1, 0, 100, 0)))

    def test_span_of_one_work(self):
        told = uses_of(2, [(1950, 1)])
        self.assertTrue(self.earned(told, code(1000, 1, 1, 100, 0)))
        self.assertFalse(self.earned(told, code(1000, 1, 1, 100, 1)))

    def test_first_day_of_the_window(self):
        self.assertTrue(self.earned(uses_of(2, [(1901, 1), (1950, 2)])))
        self.assertFalse(self.earned(uses_of(2, [(1900, 1), (1950, 2)])))

    def test_last_day_of_the_window(self):
        self.assertTrue(self.earned(uses_of(2, [(1950, 1), (D, 2)])))
        self.assertFalse(self.earned(uses_of(2, [(1950, 1), (D + 1, 2)])))
        self.assertFalse(self.earned(uses_of(2, [(1950, 1), (D + 1, 2)]), d=LAST_DAY))

    def test_authors_and_days_out_of_the_window_do_not_count(self):
        self.assertFalse(self.earned(uses_of(2, [(1950, 1), (1960, 1), (1900, 2), (D + 1, 3)])))
        self.assertFalse(self.earned(uses_of(2, [(1950, 1), (1951, 2), (1900, 3), (D + 1, 4)]), d=LAST_DAY))

    def test_least_and_greatest_window(self):
        told = uses_of(2, [(D, 1), (D, 2)])
        self.assertTrue(self.earned(told, code(1000, 2, 2, 1, 0)))
        self.assertFalse(self.earned(uses_of(2, [(D - 1, 1), (D, 2)]), code(1000, 2, 2, 1, 0)))
        self.assertTrue(self.earned(uses_of(2, [(20, 1), (D, 2)]), code(1000, 2, 2, LAST_DAY + 1, D - 20)))
        self.assertFalse(self.earned(uses_of(2, [(20, 1), (D, 2)]), code(1000, 2, 2, LAST_DAY + 1, D - 19)))

    def test_works_without_bound_of_their_number(self):
        told = uses_of(2, [(1901 + place, 1 + place % 7) for place in range(70)])
        self.assertTrue(self.earned(told, code(1000, 70, 7, 100, 69)))
        self.assertFalse(self.earned(told, code(1000, 71, 7, 100, 69)))
        self.assertFalse(self.earned(told, code(1000, 70, 8, 100, 69)))
        self.assertFalse(self.earned(told, code(1000, 70, 7, 100, 70)))

    def test_use_of_the_older_name_from_limit_on(self):
        enough = uses_of(2, [(1950, 1), (1960, 2)])
        for day, earned in ((10, True), (999, True), (1000, False), (1001, False), (1500, False), (1999, False),
                            (D, False), (D + 1, True), (LAST_DAY, True)):
            for d in (D, LAST_DAY):
                self.assertEqual(self.earned(enough + uses_of(1, [(day, 9)], 200), d=d), earned, day)

    def test_one_work_may_use_both(self):
        enough = uses_of(2, [(1950, 1), (1960, 2)])
        self.assertFalse(self.earned(enough + [use(100, 1)]))

    def test_limit_behind_the_day_of_the_act(self):
        enough = uses_of(2, [(1950, 1), (1960, 2)])
        told = enough + uses_of(1, [(D, 9)], 200)
        self.assertFalse(self.earned(told, code(D, 2, 2, 100, 10)))
        self.assertTrue(self.earned(told, code(D + 1, 2, 2, 100, 10)))
        self.assertTrue(self.earned(told, code(LAST_DAY, 2, 2, 100, 10)))

    def test_limit_0(self):
        enough = uses_of(2, [(1950, 1), (1960, 2)])
        self.assertTrue(self.earned(enough, code(0, 2, 2, 100, 10)))
        self.assertFalse(self.earned(enough + [use(1, 1)], code(0, 2, 2, 100, 10)))

    def test_earned_whatever_the_day_asked(self):
        enough = uses_of(2, [(1950, 1), (1960, 2)])
        self.assertFalse(self.earned(enough, d=D - 1))
        self.assertTrue(self.earned(enough, d=D))
        self.assertTrue(self.earned(enough, d=D + 5000))

    def test_earned_no_more_after_something_told_later(self):
        told = [CODE] + NAMES + uses_of(2, [(1950, 1), (1960, 2)]) + ACT
        asked = [order(D), work(300, 1500, 9), order(D), use(300, 1), order(D), order(D - 1), order(LAST_DAY)]
        self.assertEqual(
            run_told(told, asked), [[0, 2, 1], [0], [0, 2, 1], [0], [0, 1, 2], [0, 1, 2], [0, 1, 2]],
        )

    def test_earned_only_after_something_told_later(self):
        told = [CODE] + NAMES + uses_of(2, [(1950, 1)]) + ACT
        asked = [order(D), work(300, 1940, 9), order(D), use(300, 2), order(D)]
        self.assertEqual(run_told(told, asked), [[0, 1, 2], [0], [0, 1, 2], [0], [0, 2, 1]])


class TestOlder(unittest.TestCase):
    """The name set over the other one must be the younger; nothing else is asked here."""

    FREE = code(1000, 0, 0, 100, 0)

    def asked_first(self, told, a, b):
        """Whether a reversal setting a over b is locked ahead of a choice setting b over a."""
        # A choice asks for names of one day, so both names are of one day here.
        given = order_at([self.FREE] + told + [work(90, D), reverse(1, 90, a, b), choice(2, 90, b, a)], D)
        return given.index(a) < given.index(b)

    def test_a_reversal_of_the_younger_over_the_older(self):
        told = [work(1, 10), name(1, 1, 1), name(2, 1, 2)]
        self.assertTrue(self.asked_first(told, 2, 1))

    def test_the_older_over_the_younger_is_not_earned(self):
        told = [work(1, 10), name(1, 1, 1), name(2, 1, 2)]
        self.assertFalse(self.asked_first(told, 1, 2))

    def test_older_by_each_number_of_the_moment(self):
        by_work = [work(5, 10), work(4, 10), name(1, 5, 1), name(2, 4, 2)]
        by_page = [work(5, 10), name(1, 5, 2), name(2, 5, 1)]
        by_key = [work(5, 10), name(2, 5, 7), name(1, 5, 7)]
        for told, older, younger in ((by_work, 2, 1), (by_page, 2, 1), (by_key, 1, 2)):
            self.assertTrue(self.asked_first(told, younger, older))
            self.assertFalse(self.asked_first(told, older, younger))

    def test_older_by_the_day(self):
        # The reversal 1 over 2, asked first, would shut out 2 over 1 if it were earned.
        told = [
            self.FREE, work(9, 10), work(8, 11), work(7, 100), work(6, 200), name(1, 9, 9), name(2, 8, 8),
            reverse(1, 7, 1, 2), reverse(2, 6, 2, 1),
        ]
        self.assertEqual(order_at(told, 200), [2, 1])

    def test_a_reversal_needs_names_that_stand(self):
        told = [
            self.FREE, work(1, 10), work(2, 20), work(3, 30), work(4, 40), work(5, 50), name(1, 1), name(2, 2),
            reverse(1, 3, 2, 1), aside(2, 4, 1), restore(3, 5, 1),
        ]
        self.assertEqual([order_at(told, d) for d in (29, 30, 40, 50)], [[1, 2], [2, 1], [2], [2, 1]])

    def test_a_reversal_whose_day_is_before_its_names(self):
        told = [self.FREE, work(1, 10), work(2, 20), work(3, 5), name(1, 1), name(2, 2), reverse(1, 3, 2, 1)]
        self.assertEqual([order_at(told, d) for d in (5, 10, 20)], [[], [1], [2, 1]])


class TestCodeAtTheBeginning(unittest.TestCase):
    """73048, 25, 10, 18262, 3652, with no call of code."""

    DAY = 100000
    FIRST = DAY - 18262 + 1

    def earned(self, days_and_authors, of_older=()):
        told = [work(1, 10, 50), work(2, 20, 60), work(3, self.DAY, 70), name(1, 1), name(2, 2)]
        told = told + uses_of(2, days_and_authors) + uses_of(1, [(day, 99) for day in of_older], 500)
        given = order_at(told + ACT, self.DAY)
        return given == REVERSED

    def works(self, how_many, authors, first, last):
        """Works of that many authors: one on each of the two days, the rest on the last day."""
        days = [first] + [last] * (how_many - 1)
        return [(day, 1 + place % authors) for place, day in enumerate(days)]

    def test_just_earned(self):
        self.assertTrue(self.earned(self.works(25, 10, self.FIRST, self.FIRST + 3652)))
        self.assertTrue(self.earned(self.works(25, 10, self.DAY - 3652, self.DAY)))

    def test_a_work_too_few(self):
        self.assertFalse(self.earned(self.works(24, 10, self.FIRST, self.FIRST + 3652)))

    def test_an_author_too_few(self):
        self.assertFalse(self.earned(self.works(25, 9, self.FIRST, self.FIRST + 3652)))

    def test_a_day_of_the_span_too_few(self):
        self.assertFalse(self.earned(self.works(25, 10, self.FIRST, self.FIRST + 3651)))

    def test_a_day_before_the_window(self):
        self.assertFalse(self.earned(self.works(25, 10, self.FIRST - 1, self.FIRST + 4000)))

    def test_limit(self):
        enough = self.works(25, 10, self.FIRST, self.FIRST + 3652)
        self.assertTrue(self.earned(enough, (73047,)))
        self.assertFalse(self.earned(enough, (73048,)))


class TestRefusedCode(unittest.TestCase):
    def test_a_refused_code_leaves_the_code(self):
        told = NAMES + uses_of(2, [(1950, 1), (1960, 2)]) + ACT
        given = run_told([CODE] + told, [code(1000, 3, 2, 100, 10), order(D)])
        self.assertEqual(given, [[-16], [0, 2, 1]])
        given = run_told([CODE], [code(1000, 3, 2, 100, -1)] + told + [order(D)])
        self.assertEqual([given[0], given[-1]], [[-9], [0, 2, 1]])

    def test_the_last_code_holds(self):
        told = [code(0, 9, 9, 9, 9), code(1000, 3, 2, 100, 10), CODE] + NAMES
        told = told + uses_of(2, [(1950, 1), (1960, 2)]) + ACT
        self.assertEqual(order_at(told, D), REVERSED)


class TestUnearnedLocksNothing(unittest.TestCase):
    def test_rulings_and_choices_do_not_ask_to_be_earned(self):
        told = [work(1, 10), work(2, 20), name(1, 1), name(2, 2), rule(1, 2, 2, 1)]
        self.assertEqual(order_at(told, 20), [2, 1])


if __name__ == "__main__":
    unittest.main()
