"""Calls 11 greatest, 12 least, 13 one and 16 yield."""

import random
import unittest

from helper import (BOOK, CELLS, EXTREMES, GREATEST, LEAST, LOOK, MIDWAY, ONE, ONE_CELL, PULSE, SLOW, TWO_CELLS, Model,
                    PondCase, ask, ask_each, far, graze, last, move, pond, put, some_pond, some_wants, table, turns,
                    yield_of)

YEARS = [GREATEST, LEAST, ONE]

GOOD_WANTS = [0, 100, 1, 99, 50, 2]

# Up to 3 units become 3, from 4 on they become 7, and one is grazed: so the cell comes to 2 or to 6.
TWO_ENDS = [pond(1, 1, 8, 1), table(0, [3, 3, 3, 3, 7, 7, 7, 7, 7]), graze(0, [1])]


def years_of(setting, units):
    """How many years change something, and what it comes to, gone through by the call for turns."""
    w, h, most, p = setting[0][1:]
    before = [units] * (w * h)
    years = 0
    while True:
        after = last(*setting, put(before), turns(p), CELLS)[1:]
        if after == before:
            return [years] + before
        before = after
        years += 1


class GreatestAndLeast(PondCase):
    def test_one_cell_by_hand(self):
        # 5 becomes 3 in the first year; 3 stays what it is, and so does 0.
        self.assertEqual(ask_each(ONE_CELL, YEARS), [[1, 3], [0, 0], [0]])
        self.assertEqual(ask_each(TWO_ENDS, YEARS), [[1, 6], [1, 2], [0]])

    def test_two_cells_by_hand(self):
        # 10 10, then at each year's end 6 2, 3 2, 3 0, 2 0 and 0 0.
        self.assertEqual(ask_each(TWO_CELLS, YEARS), [[5, 0, 0], [0, 0, 0], [1]])
        # From 10 10 season 0 leaves 7 10, which spread to 9 8, and season 1 leaves 8 6, which spread to just that.
        # From 0 0 season 1 grows 2 2 and leaves 2 1; from these season 0 grows 4 2 and leaves 1 2, and so on.
        grown = TWO_CELLS + [table(1, [2, 2, 2, 2, 3, 4, 5, 6, 7, 8, 9]), graze(1, [0, 1])]
        self.assertEqual(ask_each(grown, YEARS), [[1, 8, 6], [1, 2, 1], [0]])

    def test_a_pulse_by_hand(self):
        # From 4 everywhere season 0 leaves the even cells, season 1 the odd ones, each with one unit to its right.
        self.assertEqual(ask_each(PULSE, YEARS), [[1, 1, 3, 1, 3, 1, 3], [0, 0, 0, 0, 0, 0, 0], [0]])

    def test_come_to_at_once(self):
        for w, h, most, p in ((1, 1, 1, 1), (1, 6, 60, 8), (6, 1, 1, 8), (6, 6, 60, 1), (6, 6, 60, 8), (2, 3, 9, 4)):
            self.assertEqual(ask_each([pond(w, h, most, p)], YEARS), [[0] + [most] * w * h, [0] + [0] * w * h, [0]])

    def test_one_year_that_changes_something(self):
        for p in (1, 8):
            bare = [pond(3, 3, 60, p), graze(p - 1, [100] * 9)]
            self.assertEqual(ask_each(bare, YEARS), [[1] + [0] * 9, [0] + [0] * 9, [1]])
            full = [pond(3, 3, 60, p), table(p - 1, [60] * 61)]
            self.assertEqual(ask_each(full, YEARS), [[0] + [60] * 9, [1] + [60] * 9, [1]])

    def test_many_years(self):
        for p in (1, 3, 8):
            falls = [pond(1, 1, 60, p), graze(p - 1, [1])]
            self.assertEqual(ask_each(falls, YEARS), [[60, 0], [0, 0], [1]])
            rises = [pond(1, 1, 60, p), table(0, [*range(1, 61), 60])]
            self.assertEqual(ask_each(rises, YEARS), [[0, 60], [60, 60], [1]])
        # The lower cell loses a unit a year while there are two.
        self.assertEqual(ask_each(SLOW, YEARS), [[119, 1, 0], [0, 0, 0], [0]])
        self.assertEqual(ask_each(SLOW[:1] + [graze(5, [1, 0])], YEARS), [[119, 0, 1], [0, 0, 0], [0]])

    def test_two_thousand_years(self):
        for p, s in ((1, 0), (8, 3)):
            setting = [pond(6, 6, 60, p), graze(s, [0] * 14 + [1] + [0] * 21)]
            years, *cells = last(*setting, GREATEST)
            # Each year but the last takes one unit.
            self.assertEqual(years, 36 * 60 - sum(cells))
            self.assertTrue(years > 2000)
            self.assertEqual(last(*setting, put(cells), turns(p), CELLS), [0] + cells)

    def test_before_the_first_call(self):
        self.assertEqual(ask(GREATEST, LEAST, ONE), [[0, 1], [0, 0], [0]])
        self.assertEqual(ask(table(0, [1, 1]), *YEARS)[1:], [[0, 1], [1, 1], [1]])
        self.assertEqual(ask(graze(0, [100]), *YEARS)[1:], [[1, 0], [0, 0], [1]])
        self.assertEqual(ask(ONE), [[0]])
        self.assertEqual(ask(LEAST), [[0, 0]])

    def test_years_begin_with_season_0(self):
        # Begun with season 1, the one cell of 5 would come to 4 instead of 3.
        self.assertEqual(ask_each(ONE_CELL + [put([5]), turns(1)], YEARS), [[1, 3], [0, 0], [0]])
        for setting in (MIDWAY, TWO_CELLS, PULSE + [put([1, 0, 0, 0, 0, 3])]):
            for past in range(9):
                self.assertEqual(ask_each(setting + [turns(past)], YEARS), ask_each(setting, YEARS))

    def test_the_cells_that_there_are_do_not_count(self):
        for row in ([0] * 6, [4] * 6, [1, 0, 0, 0, 0, 3]):
            self.assertEqual(ask_each(PULSE + [put(row)], YEARS), ask_each(PULSE, YEARS))

    def test_they_change_nothing(self):
        for setting in (MIDWAY, TWO_CELLS + [turns(1)], PULSE + [put([1, 0, 0, 0, 0, 3]), turns(3)], SLOW, [turns(0)]):
            for call in YEARS:
                self.check_unchanged(call, last(*setting, call), setting)

    def test_gone_through_by_turns(self):
        for seed in range(80):
            setting = some_pond(random.Random(500 + seed))
            most = setting[0][3]
            greatest = years_of(setting, most)
            least = years_of(setting, 0)
            one = [1 if greatest[1:] == least[1:] else 0]
            self.assertEqual(ask_each(setting, YEARS), [greatest, least, one], seed)

    def test_against_the_model(self):
        for seed in range(150):
            draw = random.Random(8000 + seed)
            setting = some_pond(draw) + [turns(draw.randint(0, 9))]
            model = Model()
            expected = [model.answer(call) for call in setting + YEARS + LOOK]
            self.assertEqual(ask(*setting, *YEARS, *LOOK), expected, seed)


class One(PondCase):
    def test_the_same_cells_count_not_the_same_years(self):
        # 3 years up, 5 years down, to the same cells.
        setting = [pond(1, 1, 8, 1), table(0, [1, 2, 3, 3, 3, 4, 5, 6, 7])]
        self.assertEqual(ask_each(setting, YEARS), [[5, 3], [3, 3], [1]])

    def test_one_cell_that_differs(self):
        # Season by season all but one cell are grazed bare, and one unit stays where it is.
        for bare in range(6):
            wants = [100] * 6
            wants[bare] = 0
            setting = [pond(3, 2, 1, 2), graze(0, wants)]
            cells = [0] * 6
            cells[bare] = 1
            self.assertEqual(ask_each(setting, YEARS), [[1] + cells, [0] + [0] * 6, [0]])
        self.assertEqual(ask_each([pond(3, 2, 1, 2), graze(0, [100] * 6)], YEARS), [[1] + [0] * 6, [0] + [0] * 6, [1]])

    def test_as_many_years_and_still_not_one(self):
        self.assertEqual(ask_each(TWO_ENDS, YEARS), [[1, 6], [1, 2], [0]])


class AfterAChange(PondCase):
    """What was told of the years holds only for the tables and wants that there were."""

    ASKED = [GREATEST, LEAST, ONE, yield_of([1]), yield_of([0])]

    def check_same_as_anew(self, before, change, asked):
        changed = ask(*before, *asked, *change, *asked)[-len(asked):]
        self.assertEqual(changed, ask(*before, *change, *asked)[-len(asked):])
        return changed

    def test_another_table(self):
        got = self.check_same_as_anew(TWO_ENDS, [table(0, [5] * 9)], self.ASKED)
        self.assertEqual(got, [[1, 4], [1, 4], [1], [1, 4], [0, 5]])

    def test_other_wants(self):
        got = self.check_same_as_anew(TWO_ENDS, [graze(0, [3])], self.ASKED)
        self.assertEqual(got, [[1, 4], [0, 0], [0], [1, 6], [0, 7]])

    def test_other_cells(self):
        got = self.check_same_as_anew(TWO_ENDS, [put([8]), turns(3)], self.ASKED)
        self.assertEqual(got, [[1, 6], [1, 2], [0], [1, 6], [0, 7]])

    def test_another_pond(self):
        for p in (1, 2, 8):
            got = self.check_same_as_anew(TWO_ENDS, [pond(1, 1, 8, p)], self.ASKED)
            self.assertEqual(got, [[0, 8], [0, 0], [0], [0, 0], [0, 8]])
        for most in (1, 7, 9, 60):
            got = self.check_same_as_anew(TWO_ENDS, [pond(1, 1, most, 1)], self.ASKED)
            self.assertEqual(got, [[0, most], [0, 0], [0], [0, 0], [0, most]])

    def test_a_pond_turned_on_its_side(self):
        # As many cells, the same tables and wants; only the neighbours differ.
        asked = [GREATEST, LEAST, ONE, yield_of([0, 1, 0, 2, 0, 0])]
        seen = []
        for w, h in ((3, 2), (2, 3), (6, 1), (1, 6)):
            side = [pond(w, h, 9, 1), table(0, [2, 2, 2, 3, 5, 6, 7, 8, 9, 9]), graze(0, [4, 1, 0, 2, 3, 0])]
            seen.append(self.check_same_as_anew(MIDWAY, side, asked))
            for other_w, other_h in ((3, 2), (2, 3), (6, 1), (1, 6)):
                other = [pond(other_w, other_h, 9, 1)] + side[1:]
                self.check_same_as_anew(other, side, asked)
        self.assertEqual(len({str(answer) for answer in seen}), 4)

    def test_moved_wants(self):
        got = ask(*TWO_CELLS, graze(1, [0, 0]), GREATEST, yield_of([3, 0]), move(1, 0), GREATEST, yield_of([3, 0]))[7:]
        # Season 0 leaves 7 10, which spread to 9 8, and season 1 leaves 8 7, which spread to just that. The wants of
        # the yield are told with it, and are not moved.
        self.assertEqual(got, [[1, 8, 7], [6, 12], [0], [1, 7, 8], [6, 12]])

    def test_yield_is_not_kept_as_the_wants(self):
        asked = [yield_of([0, 100, 0, 0, 3, 1]), GREATEST, LEAST, ONE, yield_of([0] * 6), GREATEST]
        self.assertEqual(ask_each(MIDWAY, asked), [last(*MIDWAY, call) for call in asked])

    def test_asked_again_and_again(self):
        got = ask(*SLOW, *[GREATEST, LEAST, ONE, yield_of([0, 1])] * 90)[3:]
        self.assertEqual(got, got[:4] * 90)
        self.assertEqual(got[:3], [[119, 1, 0], [0, 0, 0], [0]])


class Yield(PondCase):
    def test_one_cell_by_hand(self):
        # With nothing wanted 5 and 4 become 4; with 1 it's 2, 1, 0 at the years' ends, and the one that grows is
        # grazed in season 0; with 2 or more it's both that grow.
        for want, answer in ((0, [0, 4]), (1, [1, 0]), (2, [2, 0]), (3, [2, 0]), (100, [2, 0])):
            self.assertEqual(last(*ONE_CELL, yield_of([want])), answer)

    def test_two_cells_by_hand(self):
        for wants, answer in (([0, 0], [0, 18]), ([0, 1], [2, 16]), ([3, 0], [6, 12]), ([0, 100], [1, 3]),
                              ([4, 4], [0, 0]), ([100, 100], [0, 0])):
            self.assertEqual(last(*TWO_CELLS, yield_of(wants)), answer)

    def test_the_wants_that_there_are_do_not_count(self):
        asked = [yield_of(wants) for wants in ([0, 0], [0, 1], [3, 0], [0, 100])]
        for other in ([0, 0], [100, 100], [1, 2]):
            otherwise = TWO_CELLS + [graze(0, other), graze(1, other)]
            self.assertEqual(ask_each(otherwise, asked), ask_each(TWO_CELLS, asked))

    def test_it_is_every_season_and_every_cell(self):
        for p in range(1, 9):
            # In each season each cell grows by five, and of that is grazed what is wanted.
            setting = [pond(2, 2, 60, p)] + [table(s, [min(60, v + 5) for v in range(61)]) for s in range(p)]
            self.assertEqual(last(*setting, yield_of([1, 2, 3, 4])), [10 * p, self.units_left(setting, [1, 2, 3, 4])])
            self.assertEqual(last(*setting, yield_of([0] * 4)), [0, 240])
            self.assertEqual(last(*setting, yield_of([100] * 4)), [20 * p, 0])

    def units_left(self, setting, wants):
        p = setting[0][4]
        return sum(last(*setting, *[graze(s, wants) for s in range(p)], GREATEST)[1:])

    def test_a_year_that_begins_with_season_0(self):
        for setting in (ONE_CELL + [put([5])], ONE_CELL + [put([2])]):
            for past in range(5):
                self.assertEqual(last(*setting, turns(past), yield_of([0])), [0, 4])
                self.assertEqual(last(*setting, turns(past), yield_of([1])), [1, 0])

    def test_before_the_first_call(self):
        for want, answer in ((0, [0, 1]), (1, [0, 0]), (100, [0, 0])):
            self.assertEqual(ask(yield_of([want])), [answer])
        self.assertEqual(ask(table(0, [1, 1]), yield_of([0]), yield_of([1]), yield_of([100])),
                         [[0], [0, 1], [1, 0], [1, 0]])

    def test_smallest_and_largest_ponds(self):
        for w, h, most, p in ((1, 6, 1, 1), (6, 1, 60, 1), (6, 6, 1, 8), (6, 6, 60, 1), (6, 6, 60, 8)):
            setting = [pond(w, h, most, p), table(0, [most] * (most + 1))]
            self.assertEqual(last(*setting, yield_of([0] * (w * h))), [0, most * w * h])
            self.assertEqual(last(*setting, yield_of([100] * (w * h))), [most * w * h, 0])

    def test_it_changes_nothing(self):
        for wants in ([0] * 6, [100] * 6, GOOD_WANTS):
            self.check_unchanged(yield_of(wants), last(*MIDWAY, yield_of(wants)))
            setting = PULSE + [put([1, 0, 0, 0, 0, 3]), turns(3)]
            self.check_unchanged(yield_of(wants), last(*setting, yield_of(wants)), setting)
        self.check_unchanged(yield_of([7]), [0, 0], [turns(0)])

    def test_grazed_in_a_year_from_the_greatest(self):
        for seed in range(80):
            draw = random.Random(600 + seed)
            setting = some_pond(draw)
            w, h, most, p = setting[0][1:]
            wants = some_wants(draw, w * h)
            wanted = setting + [graze(s, wants) for s in range(p)]
            cells = last(*wanted, GREATEST)[1:]
            book = last(*wanted, put(cells), turns(p), BOOK)
            self.assertEqual(last(*setting, yield_of(wants)), [book[4], sum(cells)], seed)

    def test_against_the_model(self):
        for seed in range(150):
            draw = random.Random(9000 + seed)
            setting = some_pond(draw) + [turns(draw.randint(0, 9))]
            size = setting[0][1] * setting[0][2]
            asked = [yield_of(some_wants(draw, size)) for _ in range(3)] + [yield_of([1] * size)]
            model = Model()
            expected = [model.answer(call) for call in setting + asked + LOOK]
            self.assertEqual(ask(*setting, *asked, *LOOK), expected, seed)


class YieldRefused(PondCase):
    def test_length(self):
        for row in ([], [0], GOOD_WANTS[:5], GOOD_WANTS + [0], [0] * 15900):
            self.check_refused(yield_of(row), -6)
        for row in ([], [0, 0]):
            self.check_refused(yield_of(row), -6, [turns(0)])
        for count in (35, 37):
            self.check_refused(yield_of([1] * count), -6, [pond(6, 6, 60, 8)])

    def test_range(self):
        for k in range(6):
            for wrong in (-1, 101) + EXTREMES:
                self.check_refused(yield_of(GOOD_WANTS[:k] + [wrong] + GOOD_WANTS[k + 1:]), -6)
        for wrong in (-1, 101) + EXTREMES:
            self.check_refused(yield_of([wrong]), -6, [put([1])])

    def test_both_at_once(self):
        for row in ([101] * 5, [-1] * 7, list(EXTREMES)):
            self.check_refused(yield_of(row), -6)

    def test_more_than_most_may_be_wanted(self):
        self.assertEqual(last(*MIDWAY, yield_of([100] * 6)), last(*MIDWAY, yield_of([9] * 6)))
        self.assertNotEqual(last(*MIDWAY, yield_of([10] * 6)), [-6])

    def test_a_refusal_between_answers(self):
        got = ask(*ONE_CELL, yield_of([1]), yield_of([101]), far(0), yield_of([]), yield_of([1]), GREATEST)[4:]
        self.assertEqual(got, [[1, 0], [-6], [0, 0], [-6], [1, 0], [1, 3]])


if __name__ == "__main__":
    unittest.main()
