"""What the tests share: how calls are written, and a slow model of the document to hold answers against."""

import copy
import unittest

from pondyears.pond import answers

LOW = -9223372036854775808
HIGH = 9223372036854775807
EXTREMES = (LOW, HIGH)

TOLD = [4]
CELLS = [6]
BOOK = [8]
LOOK = [TOLD, CELLS, BOOK]
ROUND = [10]
GREATEST = [11]
LEAST = [12]
ONE = [13]

FARTHEST = 1000000000000000000


def pond(w, h, most, p):
    return [0, w, h, most, p]


def table(s, row):
    return [1, s, len(row)] + list(row)


def graze(s, row):
    return [2, s, len(row)] + list(row)


def put(row):
    return [3, len(row)] + list(row)


def get(x, y):
    return [5, x, y]


def turns(n):
    return [7, n]


def far(n):
    return [9, n]


def below(row):
    return [14, len(row)] + list(row)


def move(dx, dy):
    return [15, dx, dy]


def yield_of(row):
    return [16, len(row)] + list(row)


def joined(calls):
    return [number for call in calls for number in call]


def parted(given, count):
    """The answers of `count` calls, taken out of the one list that was given back."""
    parts = []
    at = 0
    for _ in range(count):
        size = given[at]
        if size < 1 or at + 1 + size > len(given):
            raise AssertionError(f"the answer at {at} does not fit in {given}")
        parts.append(given[at + 1:at + 1 + size])
        at += 1 + size
    if at != len(given):
        raise AssertionError(f"more than {count} answers in {given}")
    return parts


def ask(*calls):
    return parted(answers(joined(calls)), len(calls))


def last(*calls):
    return ask(*calls)[-1]


def ask_each(setting, calls):
    """What calls that change nothing answer in this setting, asked in lists of not too many calls."""
    got = []
    for at in range(0, len(calls), 100):
        got += ask(*setting, *calls[at:at + 100])[len(setting):]
    return got


def later(n):
    """Calls for n turns, however many."""
    return [turns(1000)] * (n // 1000) + [turns(n % 1000)]


def turn_by_turn(setting, count):
    """The answers of `cells` in this setting and after each of the next turns, `count` of them in all."""
    got = []
    for at in range(0, count, 100):
        before = setting + later(at)
        got += ask(*before, *[CELLS, turns(1)] * min(100, count - at))[len(before)::2]
    return got


# 3 by 2 cells, three seasons, in the middle of a year, with every count of the books above 0.
MIDWAY = [
    pond(3, 2, 9, 3),
    table(0, [0, 2, 4, 6, 8, 9, 9, 9, 9, 9]),
    table(1, [0, 0, 1, 2, 3, 4, 5, 6, 7, 8]),
    table(2, [2, 2, 2, 2, 3, 7, 7, 7, 7, 8]),
    graze(0, [0, 1, 0, 2, 0, 1]),
    graze(2, [100, 0, 0, 1, 0, 0]),
    put([9, 1, 8, 2, 7, 3]),
    turns(5),
]

# One cell and two seasons: a year brings 0, 1, 2 and 3 back to what they were, and 4 and 5 to 3.
ONE_CELL = [
    pond(1, 1, 5, 2),
    table(0, [2, 3, 4, 5, 5, 5]),
    table(1, [0, 0, 1, 2, 3, 4]),
    graze(0, [1]),
]

# Two cells and two seasons; a cell gives 0 to the other of up to 3 units, 1 of 4, 2 of 5 to 8, 3 of 9 and 4 of 10.
TWO_CELLS = [
    pond(2, 1, 10, 2),
    table(0, [0, 2, 4, 6, 8, 10, 10, 10, 10, 10, 10]),
    table(1, [0, 0, 1, 2, 3, 4, 5, 6, 7, 8, 9]),
    graze(0, [3, 0]),
    graze(1, [0, 100]),
    put([4, 1]),
]

# One pulse that goes round six cells, two of them a year: the seasons graze the odd and the even cells bare in turn,
# and of the four units that a cell grows to one goes to the right. Three years, six turns, bring it round.
PULSE = [
    pond(6, 1, 4, 2),
    table(0, [0, 4, 4, 4, 4]),
    table(1, [0, 4, 4, 4, 4]),
    graze(0, [0, 100, 0, 100, 0, 100]),
    graze(1, [100, 0, 100, 0, 100, 0]),
]

# 76 units, of which the lower cell loses one a year, in season 0, as long as there are two: each time it has one, as
# a cell of two or more gives one below. So the last one to go goes in turn 8 * 74, and then one unit stays where it is:
# a tail of 593 and a round of 8 turns, together 601. One turn later it is 600.
SLOW = [
    pond(1, 2, 60, 8),
    graze(0, [0, 1]),
    put([38, 38]),
]


def some_table(draw, most):
    kind = draw.randrange(6)
    if kind == 0:
        return list(range(most + 1))
    if kind == 1:
        edge = draw.randint(1, most)
        low, high = sorted((draw.randint(0, most // 3), draw.randint(most // 2, most)))
        return [low] * edge + [high] * (most + 1 - edge)
    if kind == 2:
        gain = draw.randint(1, 3)
        return [min(most, v + gain) for v in range(most + 1)]
    if kind == 3:
        loss = draw.randint(1, 2)
        return [max(0, v - loss) for v in range(most + 1)]
    if kind == 4:
        return [min(most, 2 * v) for v in range(most + 1)]
    return sorted(draw.randint(0, most) for _ in range(most + 1))


def some_wants(draw, size):
    least = draw.choice((0, 0, 0, 1))
    return [draw.choice((least, least, least, 1, 2, 4, 100)) for _ in range(size)]


def some_pond(draw):
    """The calls for a pond on which plants live: its tables and wants differ by season and cell."""
    w, h = draw.choice(((1, 1), (1, 2), (2, 1), (1, 6), (6, 1), (2, 2), (3, 2), (2, 3), (4, 3), (3, 5), (6, 6)))
    most, p = draw.choice((1, 2, 4, 5, 9, 20, 60)), draw.choice((1, 2, 2, 3, 4, 8))
    calls = [pond(w, h, most, p)]
    for s in range(p):
        calls.append(table(s, some_table(draw, most)))
        if draw.randrange(3):
            calls.append(graze(s, some_wants(draw, w * h)))
    return calls + [put([draw.randint(0, most) for _ in range(w * h)])]


class PondCase(unittest.TestCase):
    def check_refused(self, call, number, setting=MIDWAY):
        self.check_unchanged(call, [number], setting)

    def check_unchanged(self, call, answer, setting=MIDWAY):
        """`call` answers this, and all is as it was, then and seven turns on."""
        n = len(setting)
        got = ask(*setting, *LOOK, call, *LOOK, turns(7), *LOOK)
        self.assertEqual(got[n + 3], answer, call[:8])
        self.assertEqual(got[n + 4:n + 7], got[n:n + 3], call[:8])
        self.assertEqual(got[n + 7:], ask(*setting, turns(7), *LOOK)[n:], call[:8])

    def check_begun(self, call, answer, units):
        """`call` is taken in the middle of a year, and all begins anew with these units."""
        n = len(MIDWAY)
        got = ask(*MIDWAY, call, TOLD, BOOK)
        self.assertEqual(got[n], answer)
        self.assertEqual(got[n + 1][5], 0)
        self.assertEqual(got[n + 2], [0, units, 0, 0, 0, units])


class Model:
    """The document's words, cell by cell and unit by unit, with no care for speed."""

    def __init__(self):
        self.lay(1, 1, 1, 1)

    def lay(self, w, h, most, p):
        self.w, self.h, self.most, self.p = w, h, most, p
        self.places = [(x, y) for y in range(h) for x in range(w)]
        self.tables = {s: dict(enumerate(range(most + 1))) for s in range(p)}
        self.wants = {(s, place): 0 for s in range(p) for place in self.places}
        self.held = dict.fromkeys(self.places, 0)
        self.begin()

    def begin(self):
        self.season = 0
        self.book = {"first": self.units(), "grown": 0, "died": 0, "grazed": 0}

    def units(self):
        return sum(self.held.values())

    def receivers(self, x, y):
        """Who gets the 1st, 2nd, .. of each five units of a cell, in the order of the document's rounding."""
        left = (x - 1 if x > 0 else self.w - 1, y)
        right = (x + 1 if x < self.w - 1 else 0, y)
        upper = (x, y - 1 if y > 0 else self.h - 1)
        lower = (x, y + 1 if y < self.h - 1 else 0)
        return [(x, y), lower, upper, right, left]

    def turn(self):
        after = dict.fromkeys(self.places, 0)
        for place in self.places:
            units = self.held[place]
            became = self.tables[self.season][units]
            self.book["grown" if became > units else "died"] += abs(became - units)
            taken = min(became, self.wants[self.season, place])
            self.book["grazed"] += taken
            receivers = self.receivers(*place)
            for unit in range(became - taken):
                after[receivers[unit % 5]] += 1
        self.held = after
        self.season = self.season + 1 if self.season + 1 < self.p else 0

    def answer(self, call):
        return (self.pond, self.table, self.graze, self.put, self.told,
                self.get, self.cells, self.turns, self.books, self.far, self.round, self.greatest, self.least,
                self.one, self.below, self.move, self.yield_of)[call[0]](*call[1:])

    def pond(self, w, h, most, p):
        if w not in range(1, 7) or h not in range(1, 7):
            return [-1]
        if most not in range(1, 61):
            return [-2]
        if p not in range(1, 9):
            return [-3]
        self.lay(w, h, most, p)
        return [0]

    def table(self, s, count, *row):
        if s not in range(self.p):
            return [-4]
        if count != self.most + 1 or list(row) != sorted(row) or row[0] < 0 or row[-1] > self.most:
            return [-5]
        self.tables[s] = dict(enumerate(row))
        self.begin()
        return [0]

    def fits(self, row, top):
        return len(row) == len(self.places) and min(row) >= 0 and max(row) <= top

    def graze(self, s, count, *row):
        if s not in range(self.p):
            return [-4]
        if not self.fits(row, 100):
            return [-6]
        for place, want in zip(self.places, row):
            self.wants[s, place] = want
        self.begin()
        return [0]

    def put(self, count, *row):
        if not self.fits(row, self.most):
            return [-6]
        self.held = dict(zip(self.places, row))
        self.begin()
        return [self.units()]

    def told(self):
        tables = [self.tables[s][v] for s in range(self.p) for v in range(self.most + 1)]
        wants = [self.wants[s, place] for s in range(self.p) for place in self.places]
        return [0, self.w, self.h, self.most, self.p, self.season] + tables + wants

    def get(self, x, y):
        return [self.held.get((x, y), -6)]

    def cells(self):
        return [0] + [self.held[place] for place in self.places]

    def turns(self, n):
        if n not in range(1001):
            return [-7]
        for _ in range(n):
            self.turn()
        return [self.units()]

    def books(self):
        return [0] + [self.book[word] for word in ("first", "grown", "died", "grazed")] + [self.units()]

    def far(self, n):
        if n not in range(FARTHEST + 1):
            return [-7]
        if n > 600:
            course = self.round()
            if course == [-8]:
                return [-8]
            n = 600 + (n - 600) % course[1]
        twin = copy.deepcopy(self)
        for _ in range(n):
            twin.turn()
        return twin.cells()

    def round(self):
        twin = copy.deepcopy(self)
        passed = []
        while len(passed) <= 600:
            now = [twin.season] + twin.cells()
            if now in passed:
                tail = passed.index(now)
                return [tail, len(passed) - tail]
            passed.append(now)
            twin.turn()
        return [-8]

    def end_of_years(self, units):
        """A pond like this one, come to from all cells holding so much, and how many years changed something."""
        twin = copy.deepcopy(self)
        twin.held = dict.fromkeys(self.places, units)
        twin.season = 0
        years = -1
        before = None
        while before != twin.held:
            before = twin.held
            years += 1
            for _ in range(self.p):
                twin.turn()
        return twin, years

    def greatest(self):
        twin, years = self.end_of_years(self.most)
        return [years] + twin.cells()[1:]

    def least(self):
        twin, years = self.end_of_years(0)
        return [years] + twin.cells()[1:]

    def one(self):
        return [1 if self.greatest()[1:] == self.least()[1:] else 0]

    def below(self, count, *row):
        if not self.fits(row, self.most):
            return [-6]
        above = [k for k, place in enumerate(self.places) if self.held[place] > row[k]]
        return [0, above[0]] if above else [1]

    def move(self, dx, dy):
        if dx not in range(8) or dy not in range(8):
            return [-7]
        for _ in range(dx):
            self.shift(lambda x, y: (x + 1 if x < self.w - 1 else 0, y))
        for _ in range(dy):
            self.shift(lambda x, y: (x, y + 1 if y < self.h - 1 else 0))
        return [0]

    def shift(self, source):
        self.held = {place: self.held[source(*place)] for place in self.places}
        self.wants = {(s, place): self.wants[s, source(*place)] for s in range(self.p) for place in self.places}

    def yield_of(self, count, *row):
        if not self.fits(row, 100):
            return [-6]
        twin = copy.deepcopy(self)
        for s in range(self.p):
            twin.graze(s, count, *row)
        twin = twin.end_of_years(self.most)[0]
        twin.begin()
        units = twin.units()
        for _ in range(self.p):
            twin.turn()
        return [twin.book["grazed"], units]
