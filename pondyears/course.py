"""Turns and years gone through aside, while all that there is stays as it is."""

from pondyears.state import graze, grow, spread


def cells_after_turn(state, wants, season, cells):
    full = grow(cells, state.tables[season])
    return spread(graze(full, wants[season]), state.around)


def cells_after_year(state, wants, cells):
    for season in range(state.p):
        cells = cells_after_turn(state, wants, season, cells)
    return cells


def grazed_in_year(state, wants, cells):
    grazed = 0
    for season in range(state.p):
        full = grow(cells, state.tables[season])
        left = graze(full, wants[season])
        grazed += sum(full) - sum(left)
        cells = spread(left, state.around)
    return grazed


def settle(state, wants, units):
    """From all cells holding so much: how many years change something, and the cells that no year changes then."""
    years = 0
    cells = [units] * (state.w * state.h)
    after = cells_after_year(state, wants, cells)
    while after != cells:
        years += 1
        cells = after
        after = cells_after_year(state, wants, cells)
    return (years, cells)


def frozen(rows):
    return tuple([tuple(row) for row in rows])


def settled(state, wants, units):
    # It may take thousands of years, and several calls ask for the same: so it's kept by all that it hangs on.
    key = (state.w, units, frozen(state.tables), frozen(wants))
    if key not in state.known:
        state.known[key] = settle(state, wants, units)
    return state.known[key]


# What the cells are turn after turn from now: up to where they come round, or up to the turn `bound`.
class Course:
    def __init__(self, state, bound):
        self.passed = []
        self.tail = None
        self.follow(state, bound)

    def follow(self, state, bound):
        seen = {}
        season = state.season
        cells = state.cells
        for k in range(bound + 1):
            key = (season, tuple(cells))
            if key in seen:
                self.tail = seen[key]
                return
            seen[key] = k
            self.passed.append(cells)
            cells = cells_after_turn(state, state.wants, season, cells)
            season = (season + 1) % state.p

    def turns_of_round(self):
        return len(self.passed) - self.tail

    def cells_at(self, n):
        if n < len(self.passed):
            return self.passed[n]
        return self.passed[self.tail + (n - self.tail) % self.turns_of_round()]
