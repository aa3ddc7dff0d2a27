"""What the tests share: how calls are written, and a slow model of the document to hold answers against."""

import unittest

from pondyears.pond import answers

LOW = -9223372036854775808
HIGH = 9223372036854775807
EXTREMES = (LOW, HIGH)

TOLD = [4]
CELLS = [6]
BOOK = [8]
LOOK = [TOLD, CELLS, BOOK]


def pond(w, h, most, p):
    return [0, w, h, most, p]


def table(s, row):
    return [1, s, len(row)] + list(row)


def graze(s, row):
    return [2, s, len(row)] + list(row)


def put(row):
    return [3, len(row)] + list(row)


def get(x, y):
    return [5, x, y]


def turns(n):
    return [7, n]


def joined(calls):
    return [number for call in calls for number in call]


def parted(given, count):
    """The answers of `count` calls, taken out of the one list that was given back."""
    parts = []
    at = 0
    for _ in range(count):
        size = given[at]
        if size < 1 or at + 1 + size > len(given):
            raise AssertionError(f"the answer at {at} does not fit in {given}")
        parts.append(given[at + 1:at + 1 + size])
        at += 1 + size
    if at != len(given):
        raise AssertionError(f"more than {count} answers in {given}")
    return parts


def ask(*calls):
    return parted(answers(joined(calls)), len(calls))


def last(*calls):
    return ask(*calls)[-1]


# 3 by 2 cells, three seasons, in the middle of a year, with every count of the books above 0.
MIDWAY = [
    pond(3, 2, 9, 3),
    table(0, [0, 2, 4, 6, 8, 9, 9, 9, 9, 9]),
    table(1, [0, 0, 1, 2, 3, 4, 5, 6, 7, 8]),
    table(2, [2, 2, 2, 2, 3, 7, 7, 7, 7, 8]),
    graze(0, [0, 1, 0, 2, 0, 1]),
    graze(2, [100, 0, 0, 1, 0, 0]),
    put([9, 1, 8, 2, 7, 3]),
    turns(5),
]


class PondCase(unittest.TestCase):
    def check_refused(self, call, number, setting=MIDWAY):
        self.check_unchanged(call, [number], setting)

    def check_unchanged(self, call, answer, setting=MIDWAY):
        """`call` answers this, and all is as it was, then and seven turns on."""
        n = len(setting)
        got = ask(*setting, *LOOK, call, *LOOK, turns(7), *LOOK)
        self.assertEqual(got[n + 3], answer, call[:8])
        self.assertEqual(got[n + 4:n + 7], got[n:n + 3], call[:8])
        self.assertEqual(got[n + 7:], ask(*setting, turns(7), *LOOK)[n:], call[:8])

    def check_begun(self, call, answer, units):
        """`call` is taken in the middle of a year, and all begins anew with these units."""
        n = len(MIDWAY)
        got = ask(*MIDWAY, call, TOLD, BOOK)
        self.assertEqual(got[n], answer)
        self.assertEqual(got[n + 1][5], 0)
        self.assertEqual(got[n + 2], [0, units, 0, 0, 0, units])


class Model:
    """The document's words, cell by cell and unit by unit, with no care for speed."""

    def __init__(self):
        self.lay(1, 1, 1, 1)

    def lay(self, w, h, most, p):
        self.w, self.h, self.most, self.p = w, h, most, p
        self.places = [(x, y) for y in range(h) for x in range(w)]
        self.tables = {s: dict(enumerate(range(most + 1))) for s in range(p)}
        self.wants = {(s, place): 0 for s in range(p) for place in self.places}
        self.held = dict.fromkeys(self.places, 0)
        self.begin()

    def begin(self):
        self.season = 0
        self.book = {"first": self.units(), "grown": 0, "died": 0, "grazed": 0}

    def units(self):
        return sum(self.held.values())

    def receivers(self, x, y):
        """Who gets the 1st, 2nd, .. of each five units of a cell, in the order of the document's rounding."""
        left = (x - 1 if x > 0 else self.w - 1, y)
        right = (x + 1 if x < self.w - 1 else 0, y)
        upper = (x, y - 1 if y > 0 else self.h - 1)
        lower = (x, y + 1 if y < self.h - 1 else 0)
        return [(x, y), lower, upper, right, left]

    def turn(self):
        after = dict.fromkeys(self.places, 0)
        for place in self.places:
            units = self.held[place]
            became = self.tables[self.season][units]
            self.book["grown" if became > units else "died"] += abs(became - units)
            taken = min(became, self.wants[self.season, place])
            self.book["grazed"] += taken
            receivers = self.receivers(*place)
            for unit in range(became - taken):
                after[receivers[unit % 5]] += 1
        self.held = after
        self.season = self.season + 1 if self.season + 1 < self.p else 0

    def answer(self, call):
        return (self.pond, self.table, self.graze, self.put, self.told,
                self.get, self.cells, self.turns, self.books)[call[0]](*call[1:])

    def pond(self, w, h, most, p):
        if w not in range(1, 7) or h not in range(1, 7):
            return [-1]
        if most not in range(1, 61):
            return [-2]
        if p not in range(1, 9):
            return [-3]
        self.lay(w, h, most, p)
        return [0]

    def table(self, s, count, *row):
        if s not in range(self.p):
            return [-4]
        if count != self.most + 1 or list(row) != sorted(row) or row[0] < 0 or row[-1] > self.most:
            return [-5]
        self.tables[s] = dict(enumerate(row))
        self.begin()
        return [0]

    def fits(self, row, top):
        return len(row) == len(self.places) and min(row) >= 0 and max(row) <= top

    def graze(self, s, count, *row):
        if s not in range(self.p):
            return [-4]
        if not self.fits(row, 100):
            return [-6]
        for place, want in zip(self.places, row):
            self.wants[s, place] = want
        self.begin()
        return [0]

    def put(self, count, *row):
        if not self.fits(row, self.most):
            return [-6]
        self.held = dict(zip(self.places, row))
        self.begin()
        return [self.units()]

    def told(self):
        tables = [self.tables[s][v] for s in range(self.p) for v in range(self.most + 1)]
        wants = [self.wants[s, place] for s in range(self.p) for place in self.places]
        return [0, self.w, self.h, self.most, self.p, self.season] + tables + wants

    def get(self, x, y):
        return [self.held.get((x, y), -6)]

    def cells(self):
        return [0] + [self.held[place] for place in self.places]

    def turns(self, n):
        if n not in range(1001):
            return [-7]
        for _ in range(n):
            self.turn()
        return [self.units()]

    def books(self):
        return [0] + [self.book[word] for word in ("first", "grown", "died", "grazed")] + [self.units()]
