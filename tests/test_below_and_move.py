"""Calls 14 below and 15 move."""

import random
import unittest

from helper import (BOOK, CELLS, EXTREMES, GREATEST, LEAST, LOOK, MIDWAY, ONE, PULSE, ROUND, SLOW, TOLD, TWO_CELLS,
                    Model, PondCase, ask, ask_each, below, far, get, graze, last, move, pond, put, some_pond, table,
                    turns, yield_of)

HELD = [9, 0, 5, 1, 8, 2]
SIX = [pond(3, 2, 9, 1), put(HELD)]


class Below(PondCase):
    def test_no_cell_holds_more(self):
        for row in (HELD, [9] * 6, [9, 1, 5, 1, 8, 2], [9, 0, 5, 1, 8, 3]):
            self.assertEqual(last(*SIX, below(row)), [1])

    def test_the_first_that_does(self):
        for row, k in (([8, 0, 5, 1, 8, 2], 0), ([9, 0, 4, 1, 8, 2], 2), ([9, 9, 9, 0, 9, 9], 3),
                       ([9, 9, 9, 9, 7, 1], 4), ([9, 0, 5, 1, 8, 1], 5), ([0] * 6, 0), ([9, 0, 0, 0, 0, 0], 2),
                       ([9, 9, 9, 9, 9, 0], 5)):
            self.assertEqual(last(*SIX, below(row)), [0, k])

    def test_one_more_or_one_less_in_each_cell(self):
        for w, h in ((1, 1), (1, 6), (6, 1), (3, 2), (2, 3), (6, 6)):
            held = [1 + (7 * k + 3) % 59 for k in range(w * h)]
            setting = [pond(w, h, 60, 8), put(held)]
            for k in range(w * h):
                less = held[:k] + [held[k] - 1] + held[k + 1:]
                more = held[:k] + [held[k] + 1] + held[k + 1:]
                self.assertEqual(ask(*setting, below(less), below(more), below(held))[2:], [[0, k], [1], [1]])

    def test_what_the_cells_hold_now(self):
        # Two by two cells of 9, 0, 0 and 0 hold 2, 3, 4 and 0 after a turn.
        got = ask(pond(2, 2, 9, 1), put([9, 0, 0, 0]), below([2, 3, 4, 0]), turns(1), below([2, 3, 4, 0]),
                  below([9, 0, 0, 0]), below([2, 3, 3, 9]))
        self.assertEqual(got[2:], [[0, 0], [9], [1], [0, 1], [0, 2]])

    def test_wants_and_tables_do_not_count(self):
        setting = [pond(1, 1, 9, 1), table(0, [9] * 10), graze(0, [5]), put([3])]
        self.assertEqual(ask_each(setting, [below([v]) for v in range(10)]), [[0, 0]] * 3 + [[1]] * 7)

    def test_least_and_most(self):
        for most in (1, 60):
            empty = [pond(6, 6, most, 1)]
            full = empty + [put([most] * 36)]
            self.assertEqual(ask_each(empty, [below([0] * 36), below([most] * 36)]), [[1], [1]])
            self.assertEqual(ask_each(full, [below([0] * 36), below([most] * 36)]), [[0, 0], [1]])
            self.assertEqual(last(*full, below([most] * 35 + [most - 1])), [0, 35])

    def test_before_the_first_call(self):
        self.assertEqual(ask(below([0]), below([1]), put([1]), below([0]), below([1])), [[1], [1], [1], [0, 0], [1]])

    def test_it_changes_nothing(self):
        for row in ([0] * 6, [9] * 6, HELD):
            self.check_unchanged(below(row), last(*MIDWAY, below(row)))
        self.check_unchanged(below([1]), [1], [turns(0)])
        self.check_unchanged(below([0, 0]), [0, 0], TWO_CELLS + [turns(1)])

    def test_against_the_model(self):
        for seed in range(60):
            draw = random.Random(seed)
            setting = some_pond(draw) + [turns(draw.randint(0, 9))]
            most = setting[0][3]
            model = Model()
            expected = [model.answer(call) for call in setting]
            held = model.cells()[1:]
            asked = [below([draw.randint(min(v, most // 2), most) for v in held]) for _ in range(9)]
            for _ in range(9):
                near = [v + draw.choice((0, 0, 0, 0, 1, -1)) for v in held]
                asked.append(below([min(most, max(0, v)) for v in near]))
            expected += [model.answer(call) for call in asked]
            self.assertEqual(ask(*setting, *asked), expected, seed)


class BelowRefused(PondCase):
    def test_length(self):
        for row in ([], [9], [9] * 5, [9] * 7, [9] * 15900, [0] * 5, [0] * 7):
            self.check_refused(below(row), -6)
        for row in ([], [1, 1]):
            self.check_refused(below(row), -6, [turns(0)])
        for count in (35, 37):
            self.check_refused(below([1] * count), -6, [pond(6, 6, 60, 8)])

    def test_range(self):
        # Also behind a cell that would be the first to hold more.
        for row in ([9] * 6, [0] * 6):
            for k in range(6):
                for wrong in (-1, 10, 60, 100) + EXTREMES:
                    self.check_refused(below(row[:k] + [wrong] + row[k + 1:]), -6)
        self.check_refused(below([2]), -6, [turns(0)])
        for wrong in (-1, 61) + EXTREMES:
            self.check_refused(below([wrong]), -6, [pond(1, 1, 60, 1)])

    def test_both_at_once(self):
        for row in ([10] * 5, [-1] * 7, list(EXTREMES)):
            self.check_refused(below(row), -6)


class Move(PondCase):
    def test_cells_by_hand(self):
        for dx, dy, held in ((0, 0, [9, 0, 5, 1, 8, 2]), (1, 0, [0, 5, 9, 8, 2, 1]), (2, 0, [5, 9, 0, 2, 1, 8]),
                             (0, 1, [1, 8, 2, 9, 0, 5]), (1, 1, [8, 2, 1, 0, 5, 9]), (2, 1, [2, 1, 8, 5, 9, 0]),
                             (3, 2, [9, 0, 5, 1, 8, 2]), (7, 7, [8, 2, 1, 0, 5, 9]), (0, 7, [1, 8, 2, 9, 0, 5]),
                             (7, 0, [0, 5, 9, 8, 2, 1]), (4, 6, [0, 5, 9, 8, 2, 1])):
            self.assertEqual(ask(*SIX, move(dx, dy), CELLS)[2:], [[0], [0] + held])

    def test_wants_of_every_season(self):
        setting = [pond(3, 2, 1, 3), graze(0, [1, 2, 3, 4, 5, 6]), graze(2, [0, 100, 99, 7, 8, 9])]
        told = [0, 3, 2, 1, 3, 0, 0, 1, 0, 1, 0, 1]
        self.assertEqual(ask(*setting, move(1, 0), TOLD)[3:],
                         [[0], told + [2, 3, 1, 5, 6, 4] + [0] * 6 + [100, 99, 0, 8, 9, 7]])
        self.assertEqual(ask(*setting, move(2, 1), TOLD)[3:],
                         [[0], told + [6, 4, 5, 3, 1, 2] + [0] * 6 + [9, 7, 8, 99, 0, 100]])

    def test_every_step_on_every_pond(self):
        for w, h in ((1, 1), (1, 6), (6, 1), (2, 3), (3, 2), (5, 4), (6, 6)):
            held = [(7 * k + 3) % 61 for k in range(w * h)]
            wants = [(11 * k + 1) % 101 for k in range(w * h)]
            for dx in range(8):
                for dy in range(8):
                    source = [(y + dy) % h * w + (x + dx) % w for y in range(h) for x in range(w)]
                    got = ask(pond(w, h, 60, 2), graze(1, wants), put(held), move(dx, dy), CELLS, TOLD)[3:]
                    self.assertEqual(got[:2], [[0], [0] + [held[k] for k in source]])
                    self.assertEqual(got[2][-w * h:], [wants[k] for k in source])

    def test_where_w_or_h_is_one(self):
        self.assertEqual(ask(put([1]), graze(0, [5]), move(7, 7), CELLS, TOLD)[2:],
                         [[0], [0, 1], [0, 1, 1, 1, 1, 0, 0, 1, 5]])
        self.assertEqual(ask(pond(1, 3, 9, 1), put([1, 2, 3]), move(7, 0), CELLS, move(5, 7), CELLS)[2:],
                         [[0], [0, 1, 2, 3], [0], [0, 2, 3, 1]])
        self.assertEqual(ask(pond(3, 1, 9, 1), put([1, 2, 3]), move(0, 7), CELLS, move(7, 3), CELLS)[2:],
                         [[0], [0, 1, 2, 3], [0], [0, 2, 3, 1]])

    def test_season_books_and_tables_stay(self):
        for dx, dy in ((0, 0), (1, 0), (0, 1), (7, 7), (2, 5)):
            before, after = [ask(*MIDWAY, *more, *LOOK)[-3:] for more in ([], [move(dx, dy)])]
            self.assertEqual(before[0][5], 2)
            self.assertEqual(after[0][:36], before[0][:36])
            self.assertEqual(after[2], before[2])
            self.assertEqual(sorted(after[1]), sorted(before[1]))

    def test_the_books_go_on(self):
        # Each turn one unit of the grazed cell goes, wherever it was moved to.
        setting = [pond(2, 1, 3, 3), graze(0, [1, 0]), graze(1, [1, 0]), graze(2, [1, 0]), put([3, 3]), turns(1)]
        got = ask(*setting, move(1, 0), CELLS, BOOK, turns(1), CELLS, BOOK, TOLD)[7:]
        self.assertEqual(got[:5], [[0, 3, 2], [0, 6, 0, 0, 1, 5], [4], [0, 3, 1], [0, 6, 0, 0, 2, 4]])
        self.assertEqual(got[5][5], 2)
        self.assertEqual(got[5][-6:], [0, 1, 0, 1, 0, 1])

    def test_there_and_back(self):
        for setting in (MIDWAY, PULSE + [put([1, 0, 2, 0, 0, 0]), turns(3)]):
            n = len(setting)
            w, h = setting[0][1:3]
            for dx in range(8):
                for dy in range(8):
                    back = move((w - dx) % w, (h - dy) % h)
                    got = ask(*setting, *LOOK, move(dx, dy), back, *LOOK)[n:]
                    self.assertEqual(got[3:], [[0], [0]] + got[:3])

    def test_the_course_is_moved_with_it(self):
        asked = [far(0), far(1), far(7), far(601), GREATEST, LEAST]
        for setting in (MIDWAY, TWO_CELLS, PULSE + [put([1, 0, 2, 0, 0, 0]), turns(3)]):
            w, h = setting[0][1:3]
            for dx, dy in ((1, 0), (0, 1), (2, 1), (7, 7)):
                source = [(y + dy) % h * w + (x + dx) % w for y in range(h) for x in range(w)]
                there = ask_each(setting, asked)
                self.assertEqual(ask_each(setting + [move(dx, dy)], asked),
                                 [answer[:1] + [answer[1 + k] for k in source] for answer in there])
                self.assertEqual(ask_each(setting + [move(dx, dy)], [ROUND, ONE]), ask_each(setting, [ROUND, ONE]))

    def test_get_finds_what_was_there(self):
        got = ask(*SIX, get(2, 1), get(0, 0), move(2, 1), get(0, 0), get(1, 1))
        self.assertEqual(got[2:], [[2], [9], [0], [2], [9]])

    def test_before_the_first_call(self):
        for dx in (0, 1, 7):
            for dy in (0, 1, 7):
                self.assertEqual(ask(move(dx, dy), *LOOK), [[0]] + ask(*LOOK))

    def test_against_the_model(self):
        for seed in range(60):
            draw = random.Random(seed)
            calls = some_pond(draw)
            size = calls[0][1] * calls[0][2]
            for _ in range(6):
                calls += [turns(draw.randint(0, 9)), move(draw.randint(0, 7), draw.randint(0, 7)), *LOOK]
                calls += [far(draw.randint(0, 30)), GREATEST, yield_of([draw.randint(0, 2) for _ in range(size)])]
            model = Model()
            self.assertEqual(ask(*calls), [model.answer(call) for call in calls], seed)


class MoveRefused(PondCase):
    def test_dx_and_dy(self):
        for setting in (MIDWAY, SLOW, [turns(0)]):
            for wrong in (-1, 8, -7, 9) + EXTREMES:
                for other in (0, 1, 7, wrong):
                    self.check_refused(move(wrong, other), -7, setting)
                    self.check_refused(move(other, wrong), -7, setting)
            self.check_refused(move(-1, 8), -7, setting)
            self.check_refused(move(*EXTREMES), -7, setting)

    def test_on_the_largest_pond(self):
        setting = [pond(6, 6, 60, 8), put([k for k in range(36)])]
        for wrong in (-1, 8, 12):
            self.check_refused(move(wrong, 0), -7, setting)
            self.check_refused(move(0, wrong), -7, setting)


if __name__ == "__main__":
    unittest.main()
