"""Calls 7 turns and 8 book, the steps of a turn, and promise 1: no unit is lost."""

import unittest

from helper import (BOOK, CELLS, EXTREMES, MIDWAY, TOLD, TWO_CELLS, PondCase, ask, graze, last, pond, put, table,
                    turns)

# What v units give: to the left, to the right, up, down, and what is kept.
SHARES = {
    0: (0, 0, 0, 0, 0),
    1: (0, 0, 0, 0, 1),
    2: (0, 0, 0, 1, 1),
    3: (0, 0, 1, 1, 1),
    4: (0, 1, 1, 1, 1),
    5: (1, 1, 1, 1, 1),
    6: (1, 1, 1, 1, 2),
    7: (1, 1, 1, 2, 2),
    8: (1, 1, 2, 2, 2),
    9: (1, 2, 2, 2, 2),
    13: (2, 2, 3, 3, 3),
    58: (11, 11, 12, 12, 12),
    59: (11, 12, 12, 12, 12),
    60: (12, 12, 12, 12, 12),
}


def cells_after_one(w, h, held):
    return last(pond(w, h, 60, 1), put(held), turns(1), CELLS)[1:]


def only(size, held):
    return [held.get(k, 0) for k in range(size)]


class Spreading(PondCase):
    def test_in_the_middle(self):
        for v, (left, right, upper, lower, kept) in SHARES.items():
            self.assertEqual(cells_after_one(3, 3, [0, 0, 0, 0, v, 0, 0, 0, 0]),
                             [0, upper, 0, left, kept, right, 0, lower, 0])

    def test_round_the_pond(self):
        self.assertEqual(cells_after_one(4, 3, only(12, {0: 9})), only(12, {3: 1, 1: 2, 8: 2, 4: 2, 0: 2}))
        self.assertEqual(cells_after_one(4, 3, only(12, {11: 9})), only(12, {10: 1, 8: 2, 7: 2, 3: 2, 11: 2}))
        self.assertEqual(cells_after_one(4, 3, only(12, {3: 9})), only(12, {2: 1, 0: 2, 11: 2, 7: 2, 3: 2}))
        self.assertEqual(cells_after_one(4, 3, only(12, {8: 9})), only(12, {11: 1, 9: 2, 4: 2, 0: 2, 8: 2}))
        self.assertEqual(cells_after_one(6, 6, only(36, {35: 59})),
                         only(36, {34: 11, 30: 12, 29: 12, 5: 12, 35: 12}))

    def test_a_cell_that_is_its_own_neighbour(self):
        for v in range(61):
            self.assertEqual(cells_after_one(1, 1, [v]), [v])
        self.assertEqual(cells_after_one(1, 3, [9, 0, 0]), [5, 2, 2])
        self.assertEqual(cells_after_one(1, 3, [0, 8, 0]), [2, 4, 2])
        self.assertEqual(cells_after_one(3, 1, [9, 0, 0]), [6, 2, 1])
        self.assertEqual(cells_after_one(3, 1, [0, 0, 7]), [1, 1, 5])
        self.assertEqual(cells_after_one(1, 6, [0, 0, 0, 0, 0, 7]), [2, 0, 0, 0, 1, 4])
        self.assertEqual(cells_after_one(6, 1, [4, 0, 0, 0, 0, 0]), [3, 1, 0, 0, 0, 0])

    def test_where_both_neighbours_are_one_cell(self):
        self.assertEqual(cells_after_one(2, 2, [9, 0, 0, 0]), [2, 3, 4, 0])
        self.assertEqual(cells_after_one(2, 1, [0, 9]), [3, 6])
        self.assertEqual(cells_after_one(1, 2, [9, 0]), [5, 4])

    def test_all_at_once(self):
        self.assertEqual(cells_after_one(3, 1, [9, 9, 0]), [7, 8, 3])
        self.assertEqual(cells_after_one(3, 3, [60] * 9), [60] * 9)
        self.assertEqual(cells_after_one(6, 6, [60] * 36), [60] * 36)
        # Each cell of the upper row keeps 2 and gives 1 to each side; up and down go 2, 3 and 4.
        self.assertEqual(cells_after_one(3, 2, [6, 7, 8, 0, 0, 0]), [4, 4, 4, 2, 3, 4])

    def test_none_is_lost(self):
        for w in range(1, 7):
            for h in range(1, 7):
                held = [(17 * k + 5 * w + h) % 61 for k in range(w * h)]
                units = sum(held)
                got = ask(pond(w, h, 60, 1), put(held), *[turns(1), BOOK] * 9)[2:]
                self.assertEqual(got, [[units], [0, units, 0, 0, 0, units]] * 9)


class ThreeSteps(PondCase):
    def test_growing_comes_before_grazing(self):
        got = ask(pond(1, 1, 5, 1), table(0, [0, 1, 1, 5, 5, 5]), graze(0, [2]), put([3]), turns(1), BOOK)
        self.assertEqual(got[4:], [[3], [0, 3, 2, 0, 2, 3]])

    def test_grazing_comes_before_spreading(self):
        got = ask(pond(2, 1, 9, 1), graze(0, [0, 100]), put([9, 0]), turns(1), CELLS, BOOK)
        self.assertEqual(got[3:], [[9], [0, 6, 3], [0, 9, 0, 0, 0, 9]])
        got = ask(pond(2, 1, 9, 1), graze(0, [0, 100]), put([9, 0]), turns(2), CELLS, BOOK)
        self.assertEqual(got[3:], [[6], [0, 4, 2], [0, 9, 0, 0, 3, 6]])

    def test_growing_comes_before_spreading(self):
        # Spread first, the nine would lie as 6 and 3, of which the table makes nothing.
        got = ask(pond(2, 1, 9, 1), table(0, [0] * 9 + [9]), put([9, 0]), turns(1), CELLS, turns(1), BOOK)
        self.assertEqual(got[3:], [[9], [0, 6, 3], [0], [0, 9, 0, 9, 0, 0]])

    def test_no_more_is_taken_than_is_there(self):
        for want, left in ((0, 7), (1, 6), (6, 1), (7, 0), (8, 0), (99, 0), (100, 0)):
            got = ask(pond(1, 1, 60, 1), graze(0, [want]), put([7]), turns(1), BOOK)
            self.assertEqual(got[3:], [[left], [0, 7, 0, 0, 7 - left, left]])

    def test_growth_and_death_in_one_turn_are_both_booked(self):
        got = ask(pond(1, 2, 9, 1), table(0, [1] * 5 + [5] * 5), put([0, 9]), turns(1), BOOK)
        self.assertEqual(got[3:], [[6], [0, 9, 1, 4, 0, 6]])


class Seasons(PondCase):
    def test_two_years_by_hand(self):
        got = ask(*TWO_CELLS, *[turns(1), CELLS, BOOK] * 4)[6:]
        self.assertEqual(got, [[7], [0, 3, 4], [0, 5, 5, 0, 3, 7],
                               [2], [0, 2, 0], [0, 5, 5, 2, 6, 2],
                               [1], [0, 1, 0], [0, 5, 7, 2, 9, 1],
                               [0], [0, 0, 0], [0, 5, 7, 3, 9, 0]])

    def test_many_turns_are_one_after_another(self):
        for n in range(20):
            at_once = ask(*MIDWAY, turns(n), TOLD, CELLS, BOOK)[len(MIDWAY) + 1:]
            one_by_one = ask(*MIDWAY, *[turns(1)] * n, TOLD, CELLS, BOOK)[len(MIDWAY) + n:]
            self.assertEqual(at_once, one_by_one)

    def test_each_season_has_its_own_table_and_wants(self):
        calls = [pond(1, 1, 60, 8)]
        for s in range(8):
            calls.append(table(s, [min(v + s + 1, 60) for v in range(61)]))
            calls.append(graze(s, [s * s % 5]))
        held = 0
        expected = []
        for k in range(20):
            s = k % 8
            held = max(0, min(held + s + 1, 60) - s * s % 5)
            expected.append([held])
        self.assertEqual(ask(*calls, *[turns(1)] * 20)[17:], expected)

    def test_behind_the_last_season_comes_the_first(self):
        for p in range(1, 9):
            got = ask(pond(1, 1, 1, p), turns(p - 1), TOLD, turns(1), TOLD, turns(1), TOLD)
            self.assertEqual([answer[5] for answer in got[2::2]], [p - 1, 0, 1 % p])

    def test_no_turns_change_nothing(self):
        self.check_unchanged(turns(0), [sum(last(*MIDWAY, CELLS))])

    def test_a_thousand_turns(self):
        # Each turn one unit grows and is grazed, so the books count the turns.
        setting = [pond(1, 1, 60, 7)]
        for s in range(7):
            setting += [table(s, [1, *range(1, 61)]), graze(s, [1])]
        got = ask(*setting, turns(1000), BOOK, TOLD, turns(999), BOOK)
        self.assertEqual(got[15:17], [[0], [0, 0, 1000, 0, 1000, 0]])
        self.assertEqual(got[17][5], 6)
        self.assertEqual(got[18:], [[0], [0, 0, 1999, 0, 1999, 0]])

    def test_refused(self):
        for wrong in (-1, 1001, -1000, 2000) + EXTREMES:
            self.check_refused(turns(wrong), -7)
            self.check_refused(turns(wrong), -7, [put([1])])


class Books(PondCase):
    def test_midway_all_is_booked(self):
        # What the refusals are held against says little where the counts are 0.
        book = last(*MIDWAY, BOOK)
        self.assertTrue(all(count > 0 for count in book[1:]))
        self.assertEqual(last(*MIDWAY, TOLD)[5], 2)

    def test_first_and_grown_are_now_died_and_grazed(self):
        for w, h in ((1, 1), (1, 6), (6, 1), (2, 3), (6, 6)):
            calls = [pond(w, h, 60, 3)]
            calls.append(table(0, [min(60, 2 * v + 1) for v in range(61)]))
            calls.append(table(1, [v * v // 60 for v in range(61)]))
            calls.append(table(2, [0] * 20 + [25] * 20 + [60] * 21))
            calls.append(graze(1, [k % 7 for k in range(w * h)]))
            calls.append(graze(2, [100 - k for k in range(w * h)]))
            calls.append(put([(11 * k + 7) % 61 for k in range(w * h)]))
            got = ask(*calls, *[turns(1), CELLS, BOOK] * 30)[7:]
            for told, cells, book in zip(got[0::3], got[1::3], got[2::3]):
                self.assertEqual(book[0], 0)
                self.assertEqual(len(book), 6)
                first, grown, died, grazed, now = book[1:]
                self.assertEqual(first + grown, now + died + grazed)
                self.assertEqual([now], told)
                self.assertEqual(now, sum(cells))

    def test_units_at_first_stay_while_turns_go_by(self):
        books = ask(*TWO_CELLS, *[turns(3), BOOK] * 5)[7::2]
        self.assertEqual([book[1] for book in books], [5] * 5)


if __name__ == "__main__":
    unittest.main()
