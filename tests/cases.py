"""What the tests of the calls that ask have in common."""

import unittest

from lines import LAST_DAY, run, run_told, told

FAR = 1000000000000
DAYS_OUT_OF_BOUNDS = (-1, LAST_DAY + 1, FAR, -FAR)
KEYS_OF_NO_ACT = (0, -1, 1000000000, 1000000001, FAR, -FAR)


class AskedCase(unittest.TestCase):
    TELLING = []

    def answered(self, call, wanted, telling=None):
        """The call is answered so, twice as well as once, and everything kept is as it was."""
        given = run_told(self.TELLING if telling is None else telling, [told(), call, told(), call])
        self.assertEqual(given[1], wanted, call)
        self.assertEqual(given[2], given[0], call)
        self.assertEqual(given[3], given[1], call)

    def all_answered(self, calls_and_wanted, telling=None):
        """The same of many calls, one behind another in one line."""
        calls = [call for call, wanted in calls_and_wanted]
        telling = self.TELLING if telling is None else telling
        given = run_told(telling, [told()] + calls + [told()] + calls)
        for (call, wanted), part in zip(calls_and_wanted, given[1:]):
            self.assertEqual(part, wanted, call)
        self.assertEqual(given[len(calls) + 1:], given[:len(calls) + 1])

    def refused_at_days_out_of_bounds(self, make):
        """make(d) is refused with -9 at each day out of bounds, with nothing kept too, and not at both ends."""
        for d in DAYS_OUT_OF_BOUNDS:
            self.answered(make(d), [-9])
            self.assertEqual(run([make(d)]), [[-9]])
        for d in (0, LAST_DAY):
            self.assertNotEqual(run_told(self.TELLING, [make(d)]), [[-9]])
