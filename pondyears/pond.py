"""The calls on a pond, handed in and answered as one list of whole numbers."""

from pondyears.course import Course, grazed_in_year, settled
from pondyears.state import State

# A tail and round of together more turns than this are not told.
LONGEST = 600
FARTHEST = 1000000000000000000


def all_within(numbers, least, greatest):
    for number in numbers:
        if number < least or number > greatest:
            return False
    return True


def never_falls(numbers):
    for k in range(1, len(numbers)):
        if numbers[k] < numbers[k - 1]:
            return False
    return True


def is_season(state, s):
    return 0 <= s < state.p


def fits_cells(state, row, greatest):
    return len(row) == state.w * state.h and all_within(row, 0, greatest)


def call_pond(state, numbers, row):
    w = numbers[0]
    h = numbers[1]
    most = numbers[2]
    p = numbers[3]
    if not all_within([w, h], 1, 6):
        return [-1]
    if not 1 <= most <= 60:
        return [-2]
    if not 1 <= p <= 8:
        return [-3]
    state.new_pond(w, h, most, p)
    return [0]


def call_table(state, numbers, row):
    s = numbers[0]
    if not is_season(state, s):
        return [-4]
    if len(row) != state.most + 1 or not all_within(row, 0, state.most) or not never_falls(row):
        return [-5]
    state.tables[s] = row
    state.begin_anew()
    return [0]


def call_graze(state, numbers, row):
    s = numbers[0]
    if not is_season(state, s):
        return [-4]
    if not fits_cells(state, row, 100):
        return [-6]
    state.wants[s] = row
    state.begin_anew()
    return [0]


def call_set(state, numbers, row):
    if not fits_cells(state, row, state.most):
        return [-6]
    state.cells = row
    state.begin_anew()
    return [sum(state.cells)]


def call_told(state, numbers, row):
    answer = [0, state.w, state.h, state.most, state.p, state.season]
    for table in state.tables:
        answer.extend(table)
    for wants in state.wants:
        answer.extend(wants)
    return answer


def call_get(state, numbers, row):
    x = numbers[0]
    y = numbers[1]
    if not 0 <= x < state.w or not 0 <= y < state.h:
        return [-6]
    return [state.cells[y * state.w + x]]


def call_cells(state, numbers, row):
    return [0] + state.cells


def call_turns(state, numbers, row):
    n = numbers[0]
    if not 0 <= n <= 1000:
        return [-7]
    for k in range(n):
        state.turn()
    return [sum(state.cells)]


def call_book(state, numbers, row):
    return [0, state.first, state.grown, state.died, state.grazed, sum(state.cells)]


def call_far(state, numbers, row):
    n = numbers[0]
    if not 0 <= n <= FARTHEST:
        return [-7]
    course = Course(state, min(n, LONGEST))
    if n > LONGEST and course.tail is None:
        return [-8]
    return [0] + course.cells_at(n)


def call_round(state, numbers, row):
    course = Course(state, LONGEST)
    if course.tail is None:
        return [-8]
    return [course.tail, course.turns_of_round()]


def years_and_cells(state, units):
    end = settled(state, state.wants, units)
    return [end[0]] + end[1]


def call_greatest(state, numbers, row):
    return years_and_cells(state, state.most)


def call_least(state, numbers, row):
    return years_and_cells(state, 0)


def call_one(state, numbers, row):
    greatest = settled(state, state.wants, state.most)
    least = settled(state, state.wants, 0)
    return [1 if greatest[1] == least[1] else 0]


def call_below(state, numbers, row):
    if not fits_cells(state, row, state.most):
        return [-6]
    for k, v in enumerate(state.cells):
        if v > row[k]:
            return [0, k]
    return [1]


def call_move(state, numbers, row):
    dx = numbers[0]
    dy = numbers[1]
    if not all_within([dx, dy], 0, 7):
        return [-7]
    state.move(dx, dy)
    return [0]


def call_yield_of(state, numbers, row):
    if not fits_cells(state, row, 100):
        return [-6]
    wants = [row] * state.p
    cells = settled(state, wants, state.most)[1]
    return [grazed_in_year(state, wants, cells), sum(cells)]


# By a call's number: how many whole numbers it has, whether a row follows them, and what it does.
CALLS = {
    0: (4, False, call_pond),
    1: (1, True, call_table),
    2: (1, True, call_graze),
    3: (0, True, call_set),
    4: (0, False, call_told),
    5: (2, False, call_get),
    6: (0, False, call_cells),
    7: (1, False, call_turns),
    8: (0, False, call_book),
    9: (1, False, call_far),
    10: (0, False, call_round),
    11: (0, False, call_greatest),
    12: (0, False, call_least),
    13: (0, False, call_one),
    14: (0, True, call_below),
    15: (2, False, call_move),
    16: (0, True, call_yield_of),
}


def answers(calls):
    state = State()
    given = []
    at = 0
    while at < len(calls):
        shape = CALLS[calls[at]]
        behind = at + 1 + shape[0]
        numbers = calls[at + 1:behind]
        row = []
        if shape[1]:
            start = behind + 1
            behind = start + calls[behind]
            row = calls[start:behind]
        act = shape[2]
        answer = act(state, numbers, row)
        given.append(len(answer))
        given.extend(answer)
        at = behind
    return given
