"""Lines made by lot, answered by the program and by the document's words done once more."""

import random
import unittest

from lines import (
    aside, before, check, choice, code, fate, first, history, joined, locked, name, order, parted, restore, reverse,
    ring, rule, stands, tally, told, use, why, work,
)
from nameorder.registers import answers
from words import answers_by_the_words

STRANGE = (0, -1, 1000000000, 1000000001, 1000000000000, -1000000000000)


class Lot:
    """A line in which works, names and acts have few keys and days, so that much of it meets."""

    def __init__(self, seed):
        self.random = random.Random(seed)
        self.names = self.random.choice((3, 5, 8, 12, 45))
        self.works = self.random.choice((4, 8, 20, 90))
        self.days = self.random.choice((3, 10, 40))
        self.acts = self.random.choice((6, 20, 70))
        self.asking_share = self.random.choice((0.05, 0.2, 0.5))
        # Much use, so that reversals are earned or not; many acts over others, so that they run in rings;
        # or many that set aside and restore, so that the name of a set changes often.
        self.shares = self.random.choice((
            (1, 8, 6, 30, 5, 9, 5, 1, 1), (1, 3, 3, 5, 20, 10, 30, 1, 1), (1, 4, 4, 5, 8, 6, 12, 12, 12),
        ))

    def upto(self, most):
        """Mostly from 1 to most; now and then a number just out of that, or far out of it."""
        if self.random.random() < 0.02:
            return self.random.choice(STRANGE + (most + 1,))
        return self.random.randint(1, most)

    def members(self):
        how_many = self.random.choice((0, 1, 1, 2, 2, 3, 5, 60))
        return [self.upto(self.names) for _ in range(how_many)]

    def telling(self):
        kind = self.random.choices(range(9), self.shares)[0]
        works, names = self.upto(self.works), self.upto(self.names)
        if kind == 0:
            return self.code()
        if kind == 1:
            return work(works, self.upto(self.days), self.upto(4))
        if kind == 2:
            return name(names, works, self.upto(3))
        if kind == 3:
            return use(works, names)
        if kind <= 6:
            return (choice, reverse, rule)[kind - 4](self.upto(self.acts), works, names, self.upto(self.names))
        return (aside, restore)[kind - 7](self.upto(self.acts), works, names)

    def code(self):
        lot = self.random.randint
        return code(lot(0, self.days + 1), lot(0, 2), lot(0, 2), lot(1, self.days + 2), lot(0, 2))

    def asking(self):
        d = self.upto(self.days + 1)
        kind = self.random.choices(range(9, 21), (2, 4, 2, 2, 1, 3, 8, 6, 3, 1, 2, 1))[0]
        if kind == 9:
            return stands(d, self.upto(self.names))
        if kind in (10, 19):
            return (order if kind == 10 else locked)(d)
        if kind in (11, 12):
            return (first if kind == 11 else why)(d, self.members())
        if kind == 13:
            return check(d, self.members(), self.members())
        if kind == 14:
            return before(d, self.upto(self.names), self.upto(self.names))
        if kind in (15, 16):
            return (fate if kind == 15 else ring)(d, self.upto(self.acts))
        if kind == 17:
            return tally(self.upto(self.acts))
        return told() if kind == 20 else history(self.members())

    def line(self):
        calls = [self.code()]
        how_many = self.random.choice((20, 100, 400))
        first_works = [work(key, self.upto(self.days), self.upto(4)) for key in range(1, min(self.works, 30))]
        first_names = [name(key, self.upto(self.works), self.upto(3)) for key in range(1, self.names)]
        calls = (calls + first_works + first_names)[:how_many - 5]
        while len(calls) < how_many:
            calls.append(self.asking() if self.random.random() < self.asking_share else self.telling())
        return calls


class FullLot(Lot):
    """A line in which everything is kept up to its bound, and then each kind of asking comes once or more."""

    def __init__(self, seed):
        Lot.__init__(self, seed)
        self.names, self.works, self.days, self.acts = 40, 80, self.random.choice((5, 40)), 60

    def full_uses(self, days):
        pairs = [(one, other) for one in days for other in range(1, 41) if days[one] >= days[other]]
        return [use(*pair) for pair in self.random.sample(pairs, 200)]

    def full_acts(self):
        acts = []
        for key in self.random.sample(range(1, 61), 60):
            call = self.random.choices((choice, reverse, rule, aside, restore), (3, 3, 4, 1, 1))[0]
            a, b = self.random.sample(range(1, 41), 2)
            one = self.random.randint(1, 80)
            acts.append(call(key, one, a) if call in (aside, restore) else call(key, one, a, b))
        return acts

    def line(self):
        days = {key: self.random.randint(1, self.days) for key in self.random.sample(range(1, 81), 80)}
        calls = [work(key, days[key], self.random.randint(1, 4)) for key in days]
        # Each name came out in the work of its own key.
        calls += [name(key, key, self.random.randint(1, 3)) for key in self.random.sample(range(1, 41), 40)]
        calls += self.full_uses(days) + self.full_acts()
        calls = [self.code()] + calls + [work(81, 1), name(41, 1), use(81, 1), rule(61, 1, 1, 2), told()]
        while len(calls) < 400:
            calls.append(self.asking())
        return calls


class RingLot(Lot):
    """A line with so many acts among few names that many of them would close rings of several acts."""

    def line(self):
        self.names, self.works, self.acts = self.random.choice((3, 6, 9, 12, 16, 20)), 12, 60
        self.days = self.random.choice((1, 3, 12))
        calls = [code(self.days + 2, 0, 0, 1, 0)]
        calls += [work(key, self.random.randint(1, self.days)) for key in range(1, 13)]
        # Most names are of one work, so that choices count.
        calls += [name(key, self.random.choice((1, 1, 1, 1, 1, 1, 2)), 1) for key in range(1, self.names + 1)]
        for key in self.random.sample(range(1, 61), 60):
            a, b = self.random.sample(range(1, self.names + 1), 2)
            calls.append(self.random.choice((choice, rule, rule, reverse))(key, self.random.randint(1, 12), a, b))
        for key in range(1, 61):
            calls += [ring(self.days, key), ring(self.random.randint(1, self.days), key), fate(self.days, key)]
        return calls + [locked(self.days), locked(1)] + [history(self.members()) for _ in range(5)]


def met(lines):
    """For each number of a call, how often each answer was given: one number as it is, more by their count."""
    counts = {number: {} for number in range(21)}
    for line in lines:
        for call, part in zip(line, parted(answers(joined(line)))):
            answer = part[0] if len(part) == 1 else f"{len(part)} numbers"
            counts[call[0]][answer] = counts[call[0]].get(answer, 0) + 1
    return counts


class TestAgainstWords(unittest.TestCase):
    def hold(self, seed, line):
        self.assertLessEqual(len(line), 400)
        calls = joined(line)
        self.assertLessEqual(len(calls), 25000)
        untouched = list(calls)
        given, wanted = answers(calls), answers_by_the_words(calls)
        self.assertEqual(calls, untouched)
        if given != wanted:
            for call, one, other in zip(line, parted(given), parted(wanted)):
                self.assertEqual(one, other, f"seed {seed}, {call}")
        self.assertEqual(given, wanted, f"seed {seed}")
        return parted(given)

    def test_lines_by_lot(self):
        for seed in range(400):
            self.hold(seed, Lot(seed).line())

    def test_full_lines_by_lot(self):
        for seed in range(20):
            line = FullLot(seed).line()
            self.assertEqual(len(line), 400)
            given = self.hold(seed, line)
            self.assertEqual(given[:381], [[0]] * 381)
            self.assertEqual(given[381:385], [[-8], [-8], [-6], [-8]])

    def test_right_lists_by_lot(self):
        """What why answers is right, and nothing that is one number off it."""
        for seed in range(60):
            lot = Lot(seed)
            line = lot.line()[:380]
            d, members = lot.upto(lot.days + 1), lot.members()
            way = parted(answers(joined(line + [why(d, members)])))[-1]
            if way[0] == 0 and len(way) > 1:
                claims = [way[1:], way[1:-1], way[1:] + [7], way[:-1], [way[1] + 1] + way[2:]]
                given = self.hold(seed, line + [check(d, members, claim) for claim in claims])
                self.assertEqual(given[-5:], [[1], [0], [0], [0], [0]])

    def test_rings_by_lot(self):
        for seed in range(25):
            self.hold(seed, RingLot(seed).line())

    def test_the_lots_meet_every_answer(self):
        """The lines would not hold much against the words if they seldom came to what is hard."""
        counts = met([Lot(seed).line() for seed in range(400)])
        self.assertEqual(set(counts[13]), {-9, 0, 1})
        self.assertEqual(set(counts[14]), {-9, -6, 0, 1})
        self.assertEqual(set(counts[15]), {-9, -6, 0, 1, 2, 3, 4, 5, 6})
        self.assertLessEqual({0, "3 numbers", "5 numbers", "7 numbers"}, set(counts[18]))
        counts = met([RingLot(seed).line() for seed in range(25)])
        self.assertGreater(min(counts[16][f"{length} numbers"] for length in (2, 3, 4, 5)), 10)


if __name__ == "__main__":
    unittest.main()
