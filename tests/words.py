"""The document's words done once more, as plainly and slowly as they stand, to hold the program against.

Nothing here is shared with the package, so that a slip would have to be made twice.
"""

LAST_DAY = 474814
WIDTHS = (5, 3, 3, 2, 4, 4, 4, 3, 3, 2, 1, 1, 1, 1, 3, 2, 2, 1, 0, 1, 0)
ROWS = {11: 1, 12: 1, 13: 2, 18: 1}
WITH_DAY = (9, 10, 11, 12, 13, 14, 15, 16, 19)


class Words:
    def __init__(self):
        self.code = (73048, 25, 10, 18262, 3652)
        self.works = []  # (key, day, author)
        self.names = []  # (key, work, page)
        self.uses = []  # (work, name)
        self.acts = []  # (key, kind, work, a, b)

    def day_of_work(self, key):
        return [row[1] for row in self.works if row[0] == key][0]

    def name_row(self, key):
        return [row for row in self.names if row[0] == key][0]

    def moment(self, key):
        row = self.name_row(key)
        return [self.day_of_work(row[1]), row[1], row[2], key]

    def has(self, rows, key):
        return any(row[0] == key for row in rows)

    def stands(self, d, key):
        if not self.has(self.names, key) or self.moment(key)[0] > d:
            return False
        about = [
            (self.day_of_work(row[2]), row[0], row[1]) for row in self.acts if row[1] in (4, 5) and row[3] == key
        ]
        about = sorted(row for row in about if row[0] <= d)
        return not about or about[-1][2] == 5

    def tally(self, act):
        limit, works, authors, window, span = self.code
        last = self.day_of_work(act[2])
        of_b = [row for row in self.works if (row[0], act[4]) in self.uses and limit <= row[1] <= last]
        of_a = [row for row in self.works if (row[0], act[3]) in self.uses and last - window < row[1] <= last]
        days = sorted(row[1] for row in of_a) or [0]
        earned = (
            self.moment(act[4]) < self.moment(act[3])
            and not of_b
            and len(of_a) >= works
            and len({row[2] for row in of_a}) >= authors
            and days[-1] - days[0] >= span
        )
        return [len(of_b), len(of_a), len({row[2] for row in of_a}), days[-1] - days[0], int(earned)]

    def hindrance(self, d, act):
        key, kind, work, a, b = act
        so = {
            1: self.day_of_work(work) > d,
            2: not (self.stands(d, a) and self.stands(d, b)),
            3: kind == 1 and self.moment(a)[0] != self.moment(b)[0],
            4: kind == 2 and self.tally(act)[4] == 0,
        }
        return min((number for number in so if so[number]), default=0)

    def asked(self, d):
        """The acts that aren't hindered, in the order in which they are asked, each with whether it is locked."""
        led = set()
        asked = []
        for kind in (3, 2, 1):
            acts = [act for act in self.acts if act[1] == kind and self.hindrance(d, act) == 0]
            for act in sorted(acts, key=lambda row: (self.day_of_work(row[2]), row[0])):
                free = (act[4], act[3]) not in led
                asked.append((act, free))
                if free:
                    led = led_with(led, act[3], act[4])
        return asked

    def locked(self, d):
        return [act for act, is_locked in self.asked(d) if is_locked]

    def fate(self, d, act):
        if act[1] <= 3:
            return self.hindrance(d, act) or (0 if act in self.locked(d) else 5)
        if self.day_of_work(act[2]) > d:
            return 1
        about = [row for row in self.acts if row[1] >= 4 and row[3] == act[3] and self.day_of_work(row[2]) <= d]
        later = [row for row in about if (self.day_of_work(row[2]), row[0]) > (self.day_of_work(act[2]), act[0])]
        return 6 if later else 0

    def ring(self, d, act):
        asked_before = self.asked(d)
        while asked_before.pop()[0] != act:
            pass
        acts = [row for row, is_locked in asked_before if is_locked]
        # All ways of so many acts from b on, longer by one each time, until some of them end in a.
        ways = [[row] for row in acts if row[3] == act[4]]
        while not any(way[-1][4] == act[3] for way in ways):
            ways = [way + [row] for way in least_ways(ways) for row in acts if row[3] == way[-1][4]]
        return min([row[0] for row in way] for way in ways if way[-1][4] == act[3])

    def why(self, d, members):
        order = self.order(d)
        places = [place for place, key in enumerate(order) if key in members]
        return order[:places[0] + 1] if places else []

    def history(self, members):
        changes = []
        last = 0
        for d in range(max([row[1] for row in self.works], default=0) + 2):
            now = ([0] + self.why(d, members))[-1]
            if now != last:
                changes += [d, now]
            last = now
        return changes

    def told(self):
        told = list(self.code)
        for rows in (self.works, self.names, self.uses, self.acts):
            told += [len(rows)] + [number for row in sorted(rows) for number in row]
        return told

    def order(self, d):
        over = {(act[3], act[4]) for act in self.locked(d)}
        left = {row[0] for row in self.names if self.stands(d, row[0])}
        placed = []
        while left:
            free = [key for key in left if not any((other, key) in over for other in left)]
            placed.append(min(free, key=self.moment))
            left.discard(placed[-1])
        return placed

    def answer(self, number, given):
        if number == 0:
            return [self.tell_code(*given)]
        if number == 1:
            return [self.tell_work(*given)]
        if number == 2:
            return [self.tell_name(*given)]
        if number == 3:
            return [self.tell_use(*given)]
        if number <= 8:
            return [self.tell_act(number - 3, *given)]
        if number in WITH_DAY and not 0 <= given[0] <= LAST_DAY:
            return [-9]
        if number in (14, 15, 16, 17):
            return self.answer_of_keys(number, *given)
        return {
            9: lambda d, key: [int(self.stands(d, key))],
            10: lambda d: [0] + self.order(d),
            11: lambda d, s: [([0] + self.why(d, s))[-1]],
            12: lambda d, s: [0] + self.why(d, s),
            13: lambda d, s, l: [int(l != [] and l == self.why(d, s))],
            18: lambda s: [0] + self.history(s),
            19: lambda d: [0] + [act[0] for act in self.locked(d)],
            20: lambda: [0] + self.told(),
        }[number](*given)

    def answer_of_keys(self, number, *given):
        if number == 14:
            d, a, b = given
            if not self.stands(d, a) or not self.stands(d, b):
                return [-6]
            return [int(b in self.order(d) and a in self.order(d)[:self.order(d).index(b)])]
        key = given[-1]
        if not self.has(self.acts, key):
            return [-6]
        act = [row for row in self.acts if row[0] == key][0]
        if number == 15:
            return [self.fate(given[0], act)]
        if number == 16:
            return [0] + self.ring(given[0], act) if self.fate(given[0], act) == 5 else [-14]
        return [0] + self.tally(act) if act[1] == 2 else [-14]

    def tell_code(self, limit, works, authors, window, span):
        bounds = ((limit, 0, LAST_DAY), (works, 0, 1000), (authors, 0, 1000), (window, 1, LAST_DAY + 1),
                  (span, 0, LAST_DAY))
        if any(number not in range(least, most + 1) for number, least, most in bounds):
            return -9
        if self.works:
            return -16
        self.code = (limit, works, authors, window, span)
        return 0

    def tell_work(self, key, day, author):
        if key not in range(1, 10 ** 9 + 1):
            return -4
        if day not in range(LAST_DAY + 1) or author not in range(1, 10 ** 9 + 1):
            return -9
        if self.has(self.works, key):
            return -5
        if len(self.works) == 80:
            return -8
        self.works.append((key, day, author))
        return 0

    def tell_name(self, key, work, page):
        if key not in range(1, 10 ** 9 + 1):
            return -4
        if page not in range(1, 10 ** 6 + 1):
            return -9
        if self.has(self.names, key):
            return -5
        if not self.has(self.works, work):
            return -6
        if len(self.names) == 40:
            return -8
        self.names.append((key, work, page))
        return 0

    def tell_use(self, work, name):
        if not self.has(self.works, work) or not self.has(self.names, name):
            return -6
        if self.day_of_work(work) < self.moment(name)[0]:
            return -15
        if (work, name) in self.uses:
            return -5
        if len(self.uses) == 200:
            return -8
        self.uses.append((work, name))
        return 0

    def tell_act(self, kind, key, work, a, b=None):
        if key not in range(1, 10 ** 9 + 1):
            return -4
        if self.has(self.acts, key):
            return -5
        if not self.has(self.works, work) or not self.has(self.names, a):
            return -6
        if kind <= 3 and not self.has(self.names, b):
            return -6
        if kind <= 3 and a == b:
            return -10
        if len(self.acts) == 60:
            return -8
        self.acts.append((key, kind, work, a, 0 if b is None else b))
        return 0


def led_with(led, a, b):
    """Each pair of names of which the first leads to the second, where a is set over b too."""
    uppers = [a] + [upper for upper, lower in led if lower == a]
    lowers = [b] + [lower for upper, lower in led if upper == b]
    return led | {(upper, lower) for upper in uppers for lower in lowers}


def least_ways(ways):
    """Of the ways that end in one name only the one with the least keys can be the beginning of the least."""
    least = {}
    for way in sorted(ways, key=lambda way: [row[0] for row in way]):
        least.setdefault(way[-1][4], way)
    return list(least.values())


def answers_by_the_words(calls):
    words = Words()
    answers = []
    numbers = iter(calls)
    for number in numbers:
        given = [next(numbers) for _ in range(WIDTHS[number])]
        for _ in range(ROWS.get(number, 0)):
            given.append([next(numbers) for _ in range(next(numbers))])
        answer = words.answer(number, given)
        answers += [len(answer)] + answer
    return answers
