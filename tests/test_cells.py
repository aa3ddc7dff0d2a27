"""Calls 3 set, 5 get and 6 cells."""

import unittest

from helper import BOOK, CELLS, EXTREMES, MIDWAY, TOLD, PondCase, ask, get, last, pond, put, turns

GOOD_CELLS = [9, 0, 5, 1, 8, 2]


class SetCells(PondCase):
    def test_the_cells_hold_it(self):
        self.assertEqual(ask(pond(3, 2, 9, 1), put(GOOD_CELLS), CELLS), [[0], [25], [0, 9, 0, 5, 1, 8, 2]])

    def test_all_begins_anew(self):
        self.check_begun(put(GOOD_CELLS), [25], 25)
        self.check_begun(put([0] * 6), [0], 0)

    def test_tables_and_wants_stay(self):
        before = last(*MIDWAY, TOLD)
        after = last(*MIDWAY, put(GOOD_CELLS), TOLD)
        self.assertEqual(after, before[:5] + [0] + before[6:])

    def test_edges(self):
        for row in ([0], [1]):
            self.assertEqual(ask(put(row), CELLS), [row, [0] + row])
        for row in ([0] * 36, [60] * 36, [60] + [0] * 35, [0] * 35 + [60]):
            got = ask(pond(6, 6, 60, 8), put(row), CELLS, BOOK)
            units = sum(row)
            self.assertEqual(got[1:], [[units], [0] + row, [0, units, 0, 0, 0, units]])


class SetRefused(PondCase):
    def test_length(self):
        for row in ([], [0], GOOD_CELLS[:5], GOOD_CELLS + [0], [0] * 15900):
            self.check_refused(put(row), -6)
        for row in ([], [0, 0]):
            self.check_refused(put(row), -6, [turns(0)])
        for count in (35, 37):
            self.check_refused(put([1] * count), -6, [pond(6, 6, 60, 8)])

    def test_range(self):
        for k in range(6):
            for wrong in (-1, 10, 60, 100) + EXTREMES:
                self.check_refused(put(GOOD_CELLS[:k] + [wrong] + GOOD_CELLS[k + 1:]), -6)
        self.check_refused(put([2]), -6, [turns(0)])
        self.check_refused(put([61]), -6, [pond(1, 1, 60, 1)])


class GetACell(PondCase):
    def test_every_cell_of_ponds_that_are_not_square(self):
        for w, h in ((3, 2), (2, 3), (1, 6), (6, 1), (6, 6), (5, 4)):
            places = [(x, y) for y in range(h) for x in range(w)]
            held = [(7 * k + 3) % 61 for k in range(w * h)]
            got = ask(pond(w, h, 60, 1), put(held), *[get(x, y) for x, y in places])
            self.assertEqual(got[2:], [[v] for v in held])

    def test_after_turns(self):
        places = [(x, y) for y in range(2) for x in range(3)]
        got = ask(*MIDWAY, CELLS, *[get(x, y) for x, y in places])[len(MIDWAY):]
        self.assertEqual([0] + [answer[0] for answer in got[1:]], got[0])

    def test_refused(self):
        for wrong in (-1, 3, -3, 6) + EXTREMES:
            self.check_refused(get(wrong, 1), -6)
        for wrong in (-1, 2, -2, 6) + EXTREMES:
            self.check_refused(get(2, wrong), -6)
        for x, y in ((3, 0), (0, 2), (-1, -1), (-1, 1), (3, -1), (5, 0)):
            self.check_refused(get(x, y), -6)
        for x, y in ((1, 0), (0, 1), (-1, 0), (0, -1)):
            self.check_refused(get(x, y), -6, [turns(0)])
        for x, y in ((6, 0), (0, 6), (6, 5), (5, 6)):
            self.check_refused(get(x, y), -6, [pond(6, 6, 60, 8)])


if __name__ == "__main__":
    unittest.main()
