"""The document's words done once more, as plainly and slowly as they stand, to hold the program against.

Nothing here is shared with the package, so that a slip would have to be made twice.
"""

LAST_DAY = 474814
WIDTHS = {0: 5, 1: 3, 2: 3, 3: 2, 4: 4, 5: 4, 6: 4, 7: 3, 8: 3, 9: 2, 10: 1}


class Words:
    def __init__(self):
        self.code = (73048, 25, 10, 18262, 3652)
        self.works = []  # (key, day, author)
        self.names = []  # (key, work, page)
        self.uses = []  # (work, name)
        self.acts = []  # (key, kind, work, a, b)

    def day_of_work(self, key):
        return [row[1] for row in self.works if row[0] == key][0]

    def name_row(self, key):
        return [row for row in self.names if row[0] == key][0]

    def moment(self, key):
        row = self.name_row(key)
        return [self.day_of_work(row[1]), row[1], row[2], key]

    def has(self, rows, key):
        return any(row[0] == key for row in rows)

    def stands(self, d, key):
        if not self.has(self.names, key) or self.moment(key)[0] > d:
            return False
        about = [
            (self.day_of_work(row[2]), row[0], row[1]) for row in self.acts if row[1] in (4, 5) and row[3] == key
        ]
        about = sorted(row for row in about if row[0] <= d)
        return not about or about[-1][2] == 5

    def earned(self, act):
        limit, works, authors, window, span = self.code
        last = self.day_of_work(act[2])
        of_b = [row for row in self.works if (row[0], act[4]) in self.uses and limit <= row[1] <= last]
        of_a = [row for row in self.works if (row[0], act[3]) in self.uses and last - window < row[1] <= last]
        days = sorted(row[1] for row in of_a) or [0]
        return (
            self.moment(act[4]) < self.moment(act[3])
            and not of_b
            and len(of_a) >= works
            and len({row[2] for row in of_a}) >= authors
            and days[-1] - days[0] >= span
        )

    def hindered(self, d, act):
        key, kind, work, a, b = act
        if self.day_of_work(work) > d or not self.stands(d, a) or not self.stands(d, b):
            return True
        if kind == 1:
            return self.moment(a)[0] != self.moment(b)[0]
        return kind == 2 and not self.earned(act)

    def locked(self, d):
        """The pairs of names that locked acts set over one another."""
        over = set()
        for kind in (3, 2, 1):
            acts = [act for act in self.acts if act[1] == kind and not self.hindered(d, act)]
            for act in sorted(acts, key=lambda row: (self.day_of_work(row[2]), row[0])):
                if (act[4], act[3]) not in closure(over):
                    over.add((act[3], act[4]))
        return over

    def order(self, d):
        over = self.locked(d)
        left = {row[0] for row in self.names if self.stands(d, row[0])}
        placed = []
        while left:
            free = [key for key in left if not any((other, key) in over for other in left)]
            placed.append(min(free, key=self.moment))
            left.discard(placed[-1])
        return placed

    def answer(self, number, given):
        if number == 0:
            return [self.tell_code(*given)]
        if number == 1:
            return [self.tell_work(*given)]
        if number == 2:
            return [self.tell_name(*given)]
        if number == 3:
            return [self.tell_use(*given)]
        if number <= 8:
            return [self.tell_act(number - 3, *given)]
        if not 0 <= given[0] <= LAST_DAY:
            return [-9]
        if number == 9:
            return [int(self.stands(*given))]
        return [0] + self.order(*given)

    def tell_code(self, limit, works, authors, window, span):
        bounds = ((limit, 0, LAST_DAY), (works, 0, 1000), (authors, 0, 1000), (window, 1, LAST_DAY + 1),
                  (span, 0, LAST_DAY))
        if any(number not in range(least, most + 1) for number, least, most in bounds):
            return -9
        if self.works:
            return -16
        self.code = (limit, works, authors, window, span)
        return 0

    def tell_work(self, key, day, author):
        if key not in range(1, 10 ** 9 + 1):
            return -4
        if day not in range(LAST_DAY + 1) or author not in range(1, 10 ** 9 + 1):
            return -9
        if self.has(self.works, key):
            return -5
        if len(self.works) == 80:
            return -8
        self.works.append((key, day, author))
        return 0

    def tell_name(self, key, work, page):
        if key not in range(1, 10 ** 9 + 1):
            return -4
        if page not in range(1, 10 ** 6 + 1):
            return -9
        if self.has(self.names, key):
            return -5
        if not self.has(self.works, work):
            return -6
        if len(self.names) == 40:
            return -8
        self.names.append((key, work, page))
        return 0

    def tell_use(self, work, name):
        if not self.has(self.works, work) or not self.has(self.names, name):
            return -6
        if self.day_of_work(work) < self.moment(name)[0]:
            return -15
        if (work, name) in self.uses:
            return -5
        if len(self.uses) == 200:
            return -8
        self.uses.append((work, name))
        return 0

    def tell_act(self, kind, key, work, a, b=None):
        if key not in range(1, 10 ** 9 + 1):
            return -4
        if self.has(self.acts, key):
            return -5
        if not self.has(self.works, work) or not self.has(self.names, a):
            return -6
        if kind <= 3 and not self.has(self.names, b):
            return -6
        if kind <= 3 and a == b:
            return -10
        if len(self.acts) == 60:
            return -8
        self.acts.append((key, kind, work, a, 0 if b is None else b))
        return 0


def closure(pairs):
    """Each pair of names of which the first leads to the second."""
    found = set(pairs)
    while True:
        more = {(a, d) for a, b in found for c, d in found if b == c} - found
        if not more:
            return found
        found |= more


def answers_by_the_words(calls):
    words = Words()
    given = []
    place = 0
    while place < len(calls):
        end = place + 1 + WIDTHS[calls[place]]
        answer = words.answer(calls[place], calls[place + 1:end])
        given += [len(answer)] + answer
        place = end
    return given
