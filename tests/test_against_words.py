"""Lines made by lot, answered by the program and by the document's words done once more."""

import random
import unittest

from lines import (
    aside, choice, code, joined, name, order, parted, restore, reverse, rule, stands, use, work,
)
from nameorder.registers import answers
from words import answers_by_the_words


class Lot:
    """A line in which works, names and acts have few keys and days, so that much of it meets."""

    def __init__(self, seed):
        self.random = random.Random(seed)
        self.names = self.random.choice((3, 5, 8, 12, 45))
        self.works = self.random.choice((4, 8, 20, 90))
        self.days = self.random.choice((3, 10, 40))
        self.acts = self.random.choice((6, 20, 70))

    def upto(self, most):
        """Mostly from 1 to most; now and then a number just out of that, or far out of it."""
        if self.random.random() < 0.02:
            return self.random.choice((0, -1, most + 1, 1000000000, 1000000001, 1000000000000, -1000000000000))
        return self.random.randint(1, most)

    def telling(self):
        kind = self.random.choices(range(9), (1, 8, 6, 30, 5, 9, 5, 1, 1))[0]
        works, names = self.upto(self.works), self.upto(self.names)
        if kind == 0:
            return self.code()
        if kind == 1:
            return work(works, self.upto(self.days), self.upto(4))
        if kind == 2:
            return name(names, works, self.upto(3))
        if kind == 3:
            return use(works, names)
        if kind <= 6:
            return (choice, reverse, rule)[kind - 4](self.upto(self.acts), works, names, self.upto(self.names))
        return (aside, restore)[kind - 7](self.upto(self.acts), works, names)

    def code(self):
        lot = self.random.randint
        return code(lot(0, self.days + 1), lot(0, 2), lot(0, 2), lot(1, self.days + 2), lot(0, 2))

    def asking(self):
        d = self.upto(self.days + 1)
        return stands(d, self.upto(self.names)) if self.random.random() < 0.2 else order(d)

    def line(self):
        calls = [self.code()]
        how_many = self.random.choice((20, 100, 400))
        first_works = [work(key, self.upto(self.days), self.upto(4)) for key in range(1, min(self.works, 30))]
        first_names = [name(key, self.upto(self.works), self.upto(3)) for key in range(1, self.names)]
        calls = (calls + first_works + first_names)[:how_many - 5]
        while len(calls) < how_many:
            calls.append(self.asking() if self.random.random() < 0.1 else self.telling())
        return calls


class TestAgainstWords(unittest.TestCase):
    def test_lines_by_lot(self):
        for seed in range(400):
            line = Lot(seed).line()
            self.assertLessEqual(len(line), 400)
            calls = joined(line)
            given, wanted = answers(calls), answers_by_the_words(calls)
            if given != wanted:
                for call, one, other in zip(line, parted(given), parted(wanted)):
                    self.assertEqual(one, other, f"seed {seed}, {call}")
            self.assertEqual(given, wanted, f"seed {seed}")


if __name__ == "__main__":
    unittest.main()
