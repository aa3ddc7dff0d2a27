"""What there is: a pond with its tables and wants, its cells, and the books."""


def neighbours(w, h):
    """For each cell the numbers of its left, right, upper and lower neighbour."""
    around = []
    for y in range(h):
        for x in range(w):
            left = y * w + (x - 1) % w
            right = y * w + (x + 1) % w
            upper = (y - 1) % h * w + x
            lower = (y + 1) % h * w + x
            around.append((left, right, upper, lower))
    return around


def moved(row, w, dx, dy):
    """What stands dx to the right and dy below, round the pond, cell by cell."""
    h = len(row) // w
    return [row[(k // w + dy) % h * w + (k % w + dx) % w] for k in range(len(row))]


def grow(cells, table):
    return [table[v] for v in cells]


def graze(cells, wants):
    return [v - want if v > want else 0 for v, want in zip(cells, wants)]


def spread(cells, around):
    # All spread at once, so what is given is added to new cells, never to those still to give.
    after = [(v + 4) // 5 for v in cells]
    for k, v in enumerate(cells):
        sides = around[k]
        after[sides[0]] += v // 5
        after[sides[1]] += (v + 1) // 5
        after[sides[2]] += (v + 2) // 5
        after[sides[3]] += (v + 3) // 5
    return after


def gained(before, after):
    """The units by which cells rose; those that fell don't count against them."""
    return sum([new - old for old, new in zip(before, after) if new > old])


class State:
    def __init__(self):
        # What years came to, so that none is gone through twice; not part of what there is.
        self.known = {}
        self.new_pond(1, 1, 1, 1)

    def new_pond(self, w, h, most, p):
        self.w = w
        self.h = h
        self.most = most
        self.p = p
        self.around = neighbours(w, h)
        self.tables = [list(range(most + 1)) for s in range(p)]
        self.wants = [[0] * (w * h) for s in range(p)]
        self.cells = [0] * (w * h)
        self.begin_anew()

    def begin_anew(self):
        self.season = 0
        self.first = sum(self.cells)
        self.grown = 0
        self.died = 0
        self.grazed = 0

    def move(self, dx, dy):
        self.cells = moved(self.cells, self.w, dx, dy)
        self.wants = [moved(row, self.w, dx, dy) for row in self.wants]

    def turn(self):
        full = grow(self.cells, self.tables[self.season])
        left = graze(full, self.wants[self.season])
        self.grown += gained(self.cells, full)
        self.died += gained(full, self.cells)
        self.grazed += sum(full) - sum(left)
        self.cells = spread(left, self.around)
        self.season = (self.season + 1) % self.p
