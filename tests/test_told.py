"""Call 20: all that is kept."""

import unittest

from cases import FAR, AskedCase
from lines import (
    LAST_DAY, aside, before, check, choice, code, fate, first, history, locked, name, order, restore, reverse, ring,
    rule, run, run_told, stands, tally, told, use, why, work,
)

AT_THE_BEGINNING = [73048, 25, 10, 18262, 3652]


class TestTold(AskedCase):
    def test_nothing_kept(self):
        self.answered(told(), [0] + AT_THE_BEGINNING + [0, 0, 0, 0], [])

    def test_the_code(self):
        self.answered(told(), [0, 1, 2, 3, 4, 5, 0, 0, 0, 0], [code(1, 2, 3, 4, 5)])
        self.answered(told(), [0, 5, 4, 3, 2, 1, 0, 0, 0, 0], [code(1, 2, 3, 4, 5), code(5, 4, 3, 2, 1)])
        last = [LAST_DAY, 1000, 1000, LAST_DAY + 1, LAST_DAY]
        self.answered(told(), [0] + last + [0, 0, 0, 0], [code(*last)])
        self.answered(told(), [0, 0, 0, 0, 1, 0, 0, 0, 0, 0], [code(0, 0, 0, 1, 0)])

    def test_a_refused_code(self):
        given = run([code(1, 2, 3, 0, 5), told(), code(1, 2, 3, 4, 5), work(1, 1), code(5, 4, 3, 2, 1), told()])
        self.assertEqual(given[1], [0] + AT_THE_BEGINNING + [0, 0, 0, 0])
        self.assertEqual(given[5], [0, 1, 2, 3, 4, 5, 1, 1, 1, 1, 0, 0, 0])

    def test_works(self):
        telling = [work(9, 5, 7), work(1000000000, 0, 1), work(1, LAST_DAY, 1000000000), work(10, 5, 7)]
        wanted = [4, 1, LAST_DAY, 1000000000, 9, 5, 7, 10, 5, 7, 1000000000, 0, 1]
        self.answered(told(), [0] + AT_THE_BEGINNING + wanted + [0, 0, 0], telling)

    def test_names(self):
        telling = [work(1, 5), work(2, 3), name(10, 1, 8), name(1000000000, 1, 1), name(9, 2, 1000000), name(1, 2, 9)]
        wanted = [4, 1, 2, 9, 9, 2, 1000000, 10, 1, 8, 1000000000, 1, 1]
        self.answered(told(), [0] + AT_THE_BEGINNING + [2, 1, 5, 1, 2, 3, 1] + wanted + [0, 0], telling)

    def test_uses(self):
        telling = [work(3, 5), work(20, 5), name(7, 3), name(30, 3), name(4, 3)]
        telling = telling + [use(20, 7), use(3, 30), use(20, 30), use(3, 7), use(20, 4)]
        kept = [2, 3, 5, 1, 20, 5, 1, 3, 4, 3, 1, 7, 3, 1, 30, 3, 1]
        wanted = [5, 3, 7, 3, 30, 20, 4, 20, 7, 20, 30]
        self.answered(told(), [0] + AT_THE_BEGINNING + kept + wanted + [0], telling)

    def test_acts_of_each_kind(self):
        telling = [work(3, 5), work(2, 9), name(7, 3), name(8, 3)]
        telling = telling + [
            aside(40, 2, 8), reverse(9, 3, 8, 7), restore(1000000000, 3, 7), rule(2, 2, 7, 8), choice(10, 2, 8, 7),
        ]
        kept = [2, 2, 9, 1, 3, 5, 1, 2, 7, 3, 1, 8, 3, 1, 0]
        wanted = [5, 2, 3, 2, 7, 8, 9, 2, 3, 8, 7, 10, 1, 2, 8, 7, 40, 4, 2, 8, 0, 1000000000, 5, 3, 7, 0]
        self.answered(told(), [0] + AT_THE_BEGINNING + kept + wanted, telling)

    def test_everything_full_and_told_backwards(self):
        works = [(key, 100 + key % 7, 1 + key % 5) for key in range(1, 81)]
        names = [(key, 7, 1 + key % 3) for key in range(1, 41)]
        uses = [(key, other) for key in range(1, 81) for other in (3, 20, 39)][:200]
        acts = []
        for key in range(1, 61):
            kind = key % 5 + 1
            acts.append((key, kind, 1 + key % 80, 1 + key % 40, 1 + (key + 1) % 40 if kind <= 3 else 0))
        makers = {1: choice, 2: reverse, 3: rule, 4: aside, 5: restore}
        telling = [code(1, 2, 3, 4, 5)] + [work(*row) for row in works[::-1]] + [name(*row) for row in names[::-1]]
        telling = telling + [use(*row) for row in uses[::-1]]
        for key, kind, one, a, b in acts[::-1]:
            telling.append(makers[kind](key, one, a, b) if kind <= 3 else makers[kind](key, one, a))
        wanted = [0, 1, 2, 3, 4, 5]
        for rows in (works, names, uses, acts):
            wanted = wanted + [len(rows)] + [number for row in rows for number in row]
        self.assertEqual(len(telling), 381)
        self.answered(told(), wanted, telling)

    def test_refused_calls_are_not_told(self):
        telling = [work(1, 10), work(2, 20), name(1, 1), name(2, 2), use(2, 1), rule(1, 2, 2, 1)]
        refused = [
            (code(1, 2, 3, 4, 5), -16), (work(0, 5), -4), (work(3, -1), -9), (work(1, 5), -5), (name(FAR, 1), -4),
            (name(3, 1, 0), -9), (name(1, 2), -5), (name(3, 3), -6), (use(1, 2), -15), (use(2, 1), -5), (use(3, 1), -6),
            (choice(0, 1, 1, 2), -4), (reverse(1, 1, 1, 2), -5), (rule(2, 1, 1, 3), -6), (rule(2, 1, 1, 1), -10),
            (aside(1, 1, 1), -5), (restore(2, 1, 3), -6),
        ]
        for call, number in refused:
            self.answered(call, [number], telling)

    def test_asking_changes_nothing(self):
        telling = [
            work(2, 20), work(1, 10), name(2, 2), name(1, 1), use(2, 2), reverse(4, 2, 2, 1), rule(3, 2, 1, 2),
            rule(2, 2, 2, 1), choice(7, 1, 1, 2), aside(5, 1, 2), restore(6, 2, 2),
        ]
        asked = [
            stands(20, 1), order(20), first(20, [2, 1]), why(20, [1]), check(20, [1], [2, 1]), before(20, 1, 2),
            fate(20, 3), ring(20, 3), tally(4), history([1, 2]), locked(20), told(),
        ]
        for call in asked + [stands(-1, 1), order(-1), first(-1, []), before(20, 1, 3), fate(20, 9), ring(20, 2), tally(3)]:
            given = run_told(telling, [told(), call, told()] + asked)
            self.assertEqual(given[0], given[2], call)
            self.assertEqual(given[3:], run_told(telling, asked), call)

    def test_what_is_told_later(self):
        given = run([told(), work(5, 6, 7), told(), name(8, 5, 9), told(), use(5, 8), told(), aside(4, 5, 8), told()])
        start = [0] + AT_THE_BEGINNING
        self.assertEqual(given[0::2], [
            start + [0, 0, 0, 0],
            start + [1, 5, 6, 7, 0, 0, 0],
            start + [1, 5, 6, 7, 1, 8, 5, 9, 0, 0],
            start + [1, 5, 6, 7, 1, 8, 5, 9, 1, 5, 8, 0],
            start + [1, 5, 6, 7, 1, 8, 5, 9, 1, 5, 8, 1, 4, 4, 5, 8, 0],
        ])


if __name__ == "__main__":
    unittest.main()
