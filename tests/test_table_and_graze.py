"""Calls 1 table and 2 graze."""

import unittest

from helper import (BOOK, CELLS, EXTREMES, MIDWAY, TOLD, PondCase, ask, graze, last, pond, put, table, turns)

GOOD_TABLE = [0, 0, 1, 1, 2, 5, 5, 8, 9, 9]
GOOD_WANTS = [0, 100, 1, 99, 50, 2]


def told_midway():
    return last(*MIDWAY, TOLD)


def units_midway():
    return sum(last(*MIDWAY, CELLS))


class ATable(PondCase):
    def test_only_that_season_gets_it(self):
        before = told_midway()
        for s in range(3):
            after = list(before)
            after[5] = 0
            after[6 + 10 * s:16 + 10 * s] = GOOD_TABLE
            self.assertEqual(last(*MIDWAY, table(s, GOOD_TABLE), TOLD), after)

    def test_all_begins_anew_with_the_cells_as_they_are(self):
        for s in range(3):
            self.check_begun(table(s, GOOD_TABLE), [0], units_midway())
            self.assertEqual(last(*MIDWAY, table(s, GOOD_TABLE), CELLS), last(*MIDWAY, CELLS))

    def test_it_is_what_cells_become(self):
        rising = [5, 5, 5, 5, 5, 5]
        self.assertEqual(ask(pond(1, 1, 5, 1), table(0, rising), turns(1), BOOK),
                         [[0], [0], [5], [0, 0, 5, 0, 0, 5]])
        for v in range(10):
            self.assertEqual(last(pond(1, 1, 9, 1), table(0, GOOD_TABLE), put([v]), turns(1)), [GOOD_TABLE[v]])

    def test_the_later_one_counts(self):
        self.assertEqual(last(pond(1, 1, 1, 1), table(0, [1, 1]), table(0, [0, 0]), put([1]), turns(1)), [0])

    def test_edges(self):
        self.assertEqual(last(table(0, [0, 0]), TOLD), [0, 1, 1, 1, 1, 0, 0, 0, 0])
        self.assertEqual(last(table(0, [1, 1]), TOLD), [0, 1, 1, 1, 1, 0, 1, 1, 0])
        for row in ([0] * 61, [60] * 61, list(range(61)), [0] * 60 + [60], [0] + [60] * 60):
            for s in (0, 7):
                got = ask(pond(6, 6, 60, 8), table(s, row), TOLD)
                self.assertEqual(got[1], [0])
                tables = [list(range(61))] * s + [row] + [list(range(61))] * (7 - s)
                self.assertEqual(got[2], [0, 6, 6, 60, 8, 0] + sum(tables, []) + [0] * 288)


class TableRefused(PondCase):
    def test_no_such_season(self):
        for wrong in (-1, 3, -3, 4) + EXTREMES:
            self.check_refused(table(wrong, GOOD_TABLE), -4)
        self.check_refused(table(8, [0, 1]), -4, [pond(2, 2, 1, 8)])
        self.check_refused(table(1, [0, 1]), -4, [turns(0)])

    def test_length(self):
        for row in ([], [0], GOOD_TABLE[:9], GOOD_TABLE + [9], [0] * 9, [0] * 11, [0] * 15900):
            self.check_refused(table(1, row), -5)
        for row in ([0], [0, 1, 1], []):
            self.check_refused(table(0, row), -5, [turns(0)])
        for count in (60, 62):
            self.check_refused(table(7, [60] * count), -5, [pond(6, 6, 60, 8)])

    def test_range(self):
        for k in range(10):
            for wrong in (-1, 10, 11) + EXTREMES:
                self.check_refused(table(2, GOOD_TABLE[:k] + [wrong] + GOOD_TABLE[k + 1:]), -5)
        self.check_refused(table(2, [-1] + [0] * 9), -5)
        self.check_refused(table(2, [0] * 9 + [10]), -5)
        self.check_refused(table(0, [0] * 60 + [61]), -5, [pond(1, 1, 60, 1)])
        self.check_refused(table(0, list(EXTREMES)), -5, [turns(0)])

    def test_a_table_that_falls(self):
        for k in range(9):
            row = [5] * k + [6, 5] + [6] * (8 - k)
            self.check_refused(table(0, row), -5)
        self.check_refused(table(0, [9, 8, 7, 6, 5, 4, 3, 2, 1, 0]), -5)
        self.check_refused(table(0, [0, 9, 9, 9, 9, 9, 9, 9, 9, 0]), -5)
        self.check_refused(table(0, [1, 0]), -5, [turns(0)])

    def test_the_season_goes_first(self):
        for wrong in (-1, 3):
            for row in ([], [0] * 11, [9, 8, 7, 6, 5, 4, 3, 2, 1, 0], [10] * 10):
                self.check_refused(table(wrong, row), -4)


class Wants(PondCase):
    def test_only_that_season_gets_them(self):
        before = told_midway()
        for s in range(3):
            after = list(before)
            after[5] = 0
            after[36 + 6 * s:42 + 6 * s] = GOOD_WANTS
            self.assertEqual(last(*MIDWAY, graze(s, GOOD_WANTS), TOLD), after)

    def test_all_begins_anew_with_the_cells_as_they_are(self):
        for s in range(3):
            self.check_begun(graze(s, GOOD_WANTS), [0], units_midway())
            self.assertEqual(last(*MIDWAY, graze(s, GOOD_WANTS), CELLS), last(*MIDWAY, CELLS))

    def test_they_are_taken_cell_by_cell(self):
        # No cell keeps more than one unit, and a single unit stays where it is.
        got = ask(pond(3, 2, 9, 1), graze(0, [8, 7, 6, 5, 4, 3]), put([9, 7, 7, 0, 5, 2]), turns(1), CELLS, BOOK)
        self.assertEqual(got[3:], [[3], [0, 1, 0, 1, 0, 1, 0], [0, 30, 0, 0, 27, 3]])

    def test_the_later_ones_count(self):
        self.assertEqual(last(pond(1, 1, 9, 1), graze(0, [5]), graze(0, [2]), put([9]), turns(1)), [7])

    def test_edges(self):
        for s in (0, 7):
            for row in ([0] * 36, [100] * 36, [100] + [0] * 35, [0] * 35 + [100]):
                got = ask(pond(6, 6, 60, 8), graze(s, row), TOLD)
                self.assertEqual(got[1], [0])
                self.assertEqual(got[2][6:], list(range(61)) * 8 + [0] * 36 * s + row + [0] * 36 * (7 - s))


class GrazeRefused(PondCase):
    def test_no_such_season(self):
        for wrong in (-1, 3, -3, 4) + EXTREMES:
            self.check_refused(graze(wrong, GOOD_WANTS), -4)
        self.check_refused(graze(8, [0] * 4), -4, [pond(2, 2, 1, 8)])
        self.check_refused(graze(1, [0]), -4, [turns(0)])

    def test_length(self):
        for row in ([], [0], GOOD_WANTS[:5], GOOD_WANTS + [0], [0] * 15900):
            self.check_refused(graze(1, row), -6)
        for row in ([], [0, 0]):
            self.check_refused(graze(0, row), -6, [turns(0)])
        for count in (35, 37):
            self.check_refused(graze(7, [1] * count), -6, [pond(6, 6, 60, 8)])

    def test_range(self):
        for k in range(6):
            for wrong in (-1, 101) + EXTREMES:
                self.check_refused(graze(2, GOOD_WANTS[:k] + [wrong] + GOOD_WANTS[k + 1:]), -6)

    def test_the_season_goes_first(self):
        for wrong in (-1, 3):
            for row in ([], [0] * 7, [101] * 6, [-1] * 6):
                self.check_refused(graze(wrong, row), -4)


if __name__ == "__main__":
    unittest.main()
