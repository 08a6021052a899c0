"""What is kept of one line of calls."""


class Code:
    """What a reversal asks for."""

    def __init__(self, limit, works, authors, window, span):
        self.limit = limit
        self.works = works
        self.authors = authors
        self.window = window
        self.span = span


class Work:
    def __init__(self, key, day, author):
        self.key = key
        self.day = day
        self.author = author


class Name:
    """A name; work is the key of the work in which it came out."""

    def __init__(self, key, work, page):
        self.key = key
        self.work = work
        self.page = page


class Act:
    """An act; work, a and b are keys, and b is 0 where the act is about one name alone."""

    def __init__(self, key, kind, work, a, b):
        self.key = key
        self.kind = kind
        self.work = work
        self.a = a
        self.b = b


class Kept:
    """Works, names and acts by their keys; uses by the pair of the work's key and the name's key."""

    def __init__(self):
        self.code = Code(73048, 25, 10, 18262, 3652)
        self.works = {}
        self.names = {}
        self.uses = {}
        self.acts = {}


def name_day(kept, name):
    return kept.works[name.work].day


def act_day(kept, act):
    return kept.works[act.work].day


def moment(kept, name):
    """Four numbers that place the name in time; no two names have the same, as the last is the key."""
    return (name_day(kept, name), name.work, name.page, name.key)


def works_using(kept, key, first_day, last_day):
    """The works from first_day to last_day, both included, that use the name of that key."""
    return [
        kept.works[work] for work, name in kept.uses
        if name == key and first_day <= kept.works[work].day <= last_day
    ]
