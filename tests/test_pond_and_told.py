"""Calls 0 pond and 4 told, and the pond that there is before the first call."""

import unittest

from helper import (BOOK, CELLS, EXTREMES, GREATEST, LEAST, LOOK, MIDWAY, ONE, ROUND, TOLD, PondCase, ask, below, far,
                    get, graze, last, move, pond, put, table, turns, yield_of)


class BeforeTheFirstCall(PondCase):
    def test_one_cell_of_nothing(self):
        self.assertEqual(ask(TOLD, CELLS, BOOK, get(0, 0)),
                         [[0, 1, 1, 1, 1, 0, 0, 1, 0], [0, 0], [0, 0, 0, 0, 0, 0], [0]])

    def test_each_call_alone(self):
        self.assertEqual(ask(pond(2, 3, 4, 5)), [[0]])
        self.assertEqual(ask(table(0, [1, 1])), [[0]])
        self.assertEqual(ask(graze(0, [100])), [[0]])
        self.assertEqual(ask(put([1])), [[1]])
        self.assertEqual(ask(TOLD), [[0, 1, 1, 1, 1, 0, 0, 1, 0]])
        self.assertEqual(ask(get(0, 0)), [[0]])
        self.assertEqual(ask(CELLS), [[0, 0]])
        self.assertEqual(ask(turns(1000)), [[0]])
        self.assertEqual(ask(BOOK), [[0, 0, 0, 0, 0, 0]])
        self.assertEqual(ask(far(1000000000000000000)), [[0, 0]])
        self.assertEqual(ask(ROUND), [[0, 1]])
        self.assertEqual(ask(GREATEST), [[0, 1]])
        self.assertEqual(ask(LEAST), [[0, 0]])
        self.assertEqual(ask(ONE), [[0]])
        self.assertEqual(ask(below([0])), [[1]])
        self.assertEqual(ask(move(7, 7)), [[0]])
        self.assertEqual(ask(yield_of([100])), [[0, 0]])

    def test_each_refusal_alone(self):
        self.assertEqual(ask(pond(0, 1, 1, 1)), [[-1]])
        self.assertEqual(ask(pond(1, 1, 0, 1)), [[-2]])
        self.assertEqual(ask(pond(1, 1, 1, 0)), [[-3]])
        self.assertEqual(ask(table(1, [0, 1])), [[-4]])
        self.assertEqual(ask(table(0, [1, 0])), [[-5]])
        self.assertEqual(ask(graze(1, [0])), [[-4]])
        self.assertEqual(ask(graze(0, [])), [[-6]])
        self.assertEqual(ask(put([2])), [[-6]])
        self.assertEqual(ask(get(1, 0)), [[-6]])
        self.assertEqual(ask(turns(-1)), [[-7]])
        self.assertEqual(ask(far(1000000000000000001)), [[-7]])
        self.assertEqual(ask(below([2])), [[-6]])
        self.assertEqual(ask(move(0, 8)), [[-7]])
        self.assertEqual(ask(yield_of([101])), [[-6]])

    def test_it_is_a_pond_like_any_other(self):
        got = ask(table(0, [1, 1]), turns(3), BOOK, graze(0, [1]), turns(2), TOLD, CELLS, BOOK)
        self.assertEqual(got, [[0], [1], [0, 0, 1, 0, 0, 1], [0], [0],
                               [0, 1, 1, 1, 1, 0, 1, 1, 1], [0, 0], [0, 1, 1, 0, 2, 0]])


class ANewPond(PondCase):
    def test_told_of_a_new_pond(self):
        self.assertEqual(ask(pond(3, 2, 4, 2), TOLD, CELLS, BOOK),
                         [[0],
                          [0, 3, 2, 4, 2, 0] + [0, 1, 2, 3, 4] * 2 + [0] * 12,
                          [0] + [0] * 6,
                          [0, 0, 0, 0, 0, 0]])

    def test_every_size_that_is_allowed(self):
        for w in range(1, 7):
            for h in range(1, 7):
                got = ask(pond(w, h, 1, 1), TOLD, CELLS)
                self.assertEqual(got, [[0], [0, w, h, 1, 1, 0, 0, 1] + [0] * (w * h), [0] * (w * h + 1)])

    def test_least_and_greatest(self):
        self.assertEqual(ask(pond(1, 1, 1, 1), TOLD), [[0], [0, 1, 1, 1, 1, 0, 0, 1, 0]])
        self.assertEqual(ask(pond(6, 6, 60, 8), TOLD, CELLS),
                         [[0], [0, 6, 6, 60, 8, 0] + list(range(61)) * 8 + [0] * 288, [0] * 37])

    def test_every_most_and_every_p_that_is_allowed(self):
        for most in range(1, 61):
            self.assertEqual(last(pond(1, 2, most, 1), TOLD), [0, 1, 2, most, 1, 0, *range(most + 1), 0, 0])
        for p in range(1, 9):
            self.assertEqual(last(pond(1, 2, 1, p), TOLD), [0, 1, 2, 1, p, 0] + [0, 1] * p + [0, 0] * p)

    def test_nothing_of_the_old_pond_stays(self):
        for shape in ((3, 2, 9, 3), (2, 3, 9, 3), (1, 1, 1, 1), (6, 6, 60, 8)):
            fresh = ask(pond(*shape), *LOOK, turns(5), *LOOK)
            self.assertEqual(ask(*MIDWAY, pond(*shape), *LOOK, turns(5), *LOOK)[len(MIDWAY):], fresh)

    def test_several_ponds_in_one_list(self):
        got = ask(pond(2, 1, 3, 1), put([3, 1]), CELLS, pond(1, 2, 5, 2), CELLS, put([5, 4]), CELLS, BOOK, TOLD)
        self.assertEqual(got, [[0], [4], [0, 3, 1], [0], [0, 0, 0], [9], [0, 5, 4], [0, 9, 0, 0, 0, 9],
                               [0, 1, 2, 5, 2, 0, 0, 1, 2, 3, 4, 5, 0, 1, 2, 3, 4, 5, 0, 0, 0, 0]])


class PondRefused(PondCase):
    def test_width_and_height(self):
        for wrong in (0, 7, -1, 8) + EXTREMES:
            self.check_refused(pond(wrong, 3, 5, 2), -1)
            self.check_refused(pond(3, wrong, 5, 2), -1)
            self.check_refused(pond(wrong, wrong, 5, 2), -1)

    def test_most(self):
        for wrong in (0, 61, -1, 62) + EXTREMES:
            self.check_refused(pond(3, 2, wrong, 2), -2)

    def test_seasons(self):
        for wrong in (0, 9, -1, 10) + EXTREMES:
            self.check_refused(pond(3, 2, 5, wrong), -3)

    def test_the_one_told_first_goes_first(self):
        self.check_refused(pond(0, 1, 0, 0), -1)
        self.check_refused(pond(1, 7, 61, 9), -1)
        self.check_refused(pond(1, 7, 60, 9), -1)
        self.check_refused(pond(7, 1, 61, 8), -1)
        self.check_refused(pond(6, 6, 61, 9), -2)
        self.check_refused(pond(1, 1, 0, 0), -2)


class ToldOfAll(PondCase):
    def test_tables_then_wants_season_by_season(self):
        got = last(pond(3, 1, 2, 3),
                   table(2, [0, 0, 0]), table(0, [2, 2, 2]), table(1, [0, 2, 2]),
                   graze(1, [4, 5, 6]), graze(2, [7, 8, 9]), graze(0, [1, 2, 3]),
                   turns(5), TOLD)
        self.assertEqual(got, [0, 3, 1, 2, 3, 2, 2, 2, 2, 0, 2, 2, 0, 0, 0, 1, 2, 3, 4, 5, 6, 7, 8, 9])

    def test_the_season_that_comes_next(self):
        seasons = [answer[5] for answer in ask(pond(1, 1, 1, 3), *[turns(1), TOLD] * 7)[2::2]]
        self.assertEqual(seasons, [1, 2, 0, 1, 2, 0, 1])

    def test_telling_changes_nothing(self):
        for call in LOOK + [get(1, 1)]:
            self.check_unchanged(call, last(*MIDWAY, call))


if __name__ == "__main__":
    unittest.main()
