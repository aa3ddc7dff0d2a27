"""Calls 9 far and 10 round, and promise 4: what is told of a far turn is what turn by turn would come to."""

import random
import unittest

from helper import (CELLS, EXTREMES, FARTHEST, MIDWAY, ONE_CELL, PULSE, ROUND, SLOW, TOLD, TWO_CELLS, Model, PondCase,
                    ask, ask_each, far, graze, last, later, pond, put, some_pond, table, turn_by_turn, turns)

# What two by two cells of 9, 0, 0 and 0 come to, where nothing grows, dies or is grazed.
SQUARE = [pond(2, 2, 9, 1), put([9, 0, 0, 0])]
SQUARE_TURNS = [[9, 0, 0, 0], [2, 3, 4, 0], [3, 1, 2, 3], [2, 3, 3, 1]]

# The upper cell keeps 1 of 3 units and gives 2 away, and so it goes to and fro.
TO_AND_FRO = [pond(1, 2, 3, 3), put([3, 0])]

# A large pond that loses a unit a year, and so takes far more than 600 turns to come round.
LARGE = [pond(6, 6, 60, 8), graze(0, [0] * 7 + [1] + [0] * 28), put([(11 * k + 7) % 61 for k in range(36)])]

# Another one, whose cells go on changing with the seasons once it has come round.
RESTLESS = [
    pond(1, 3, 60, 4),
    table(0, [0, 1, 3, 3, 4, *range(5, 61)]),
    table(1, [0, 1, 2, 3, 5, *range(5, 61)]),
    table(2, [0, 1, 1, 3, 4, *range(5, 61)]),
    table(3, [0, 2, 2, 3, 3, *range(5, 61)]),
    graze(1, [1, 0, 0]),
    put([60, 60, 60]),
]


def moving_pulse(turn):
    """What PULSE holds after so many turns, from one unit in the first cell on."""
    if turn == 0:
        return [1, 0, 0, 0, 0, 0]
    held = [0] * 6
    held[(turn - 1) % 6] = 3
    held[turn % 6] = 1
    return held


class FarTurns(PondCase):
    def test_one_cell_by_hand(self):
        setting = ONE_CELL + [put([5])]
        self.assertEqual(ask_each(setting, [far(n) for n in (0, 1, 2, 3, 4, 5, 599, 600, 601, 602)]),
                         [[0, v] for v in (5, 4, 3, 4, 3, 4, 4, 3, 4, 3)])
        self.assertEqual(ask_each(setting, [far(FARTHEST - 1), far(FARTHEST)]), [[0, 4], [0, 3]])

    def test_two_cells_by_hand(self):
        self.assertEqual(ask_each(TWO_CELLS, [far(n) for n in (0, 1, 2, 3, 4, 600, 601, FARTHEST)]),
                         [[0, 4, 1], [0, 3, 4], [0, 2, 0], [0, 1, 0], [0, 0, 0], [0, 0, 0], [0, 0, 0], [0, 0, 0]])

    def test_a_square_by_hand(self):
        expected = [[0] + SQUARE_TURNS[n] for n in (0, 1, 2, 3, 2, 3, 2, 3, 2, 3)]
        asked = [far(n) for n in (0, 1, 2, 3, 4, 5, 600, 601, FARTHEST, FARTHEST - 1)]
        self.assertEqual(ask_each(SQUARE, asked), expected)

    def test_a_pulse_by_hand(self):
        setting = PULSE + [put(moving_pulse(0))]
        for n in list(range(20)) + list(range(595, 615)) + list(range(FARTHEST - 6, FARTHEST + 1)):
            self.assertEqual(last(*setting, far(n)), [0] + moving_pulse(n), n)

    def test_it_goes_from_now(self):
        # In season 1 the one cell of 4 dies down to 3 first; gone through from season 0 it would hold 4 again.
        self.assertEqual(ask(*ONE_CELL, put([5]), turns(1), far(0), far(1), far(2), far(601), far(602))[6:],
                         [[0, 4], [0, 3], [0, 4], [0, 3], [0, 4]])
        setting = PULSE + [put(moving_pulse(0))]
        for past in range(1, 8):
            asked = [far(n) for n in (0, 1, 5, 600, 601, 1001)]
            self.assertEqual(ask_each(setting + [turns(past)], asked),
                             [[0] + moving_pulse(past + n) for n in (0, 1, 5, 600, 601, 1001)])

    def test_several_ponds_in_one_list(self):
        got = ask(far(7), *SQUARE, far(601), *TO_AND_FRO, far(600), far(601), *ONE_CELL, put([5]), far(601), *SQUARE,
                  turns(3), far(FARTHEST))
        self.assertEqual(got[0], [0, 0])
        self.assertEqual(got[3], [0] + SQUARE_TURNS[3])
        self.assertEqual(got[6:8], [[0, 2, 1], [0, 1, 2]])
        self.assertEqual(got[13], [0, 4])
        self.assertEqual(got[17], [0] + SQUARE_TURNS[3])

    def test_before_the_first_call(self):
        for n in (0, 1, 600, 601, FARTHEST):
            self.assertEqual(ask(far(n)), [[0, 0]])
            self.assertEqual(ask(put([1]), far(n)), [[1], [0, 1]])
            self.assertEqual(ask(put([1]), graze(0, [100]), far(n))[2], [0, 0 if n else 1])

    def test_smallest_and_largest_ponds(self):
        for w, h, most, p in ((1, 1, 60, 8), (1, 6, 1, 1), (6, 1, 60, 1), (6, 6, 1, 8), (6, 6, 60, 1), (6, 6, 60, 8)):
            held = [(7 * k + 3) % (most + 1) for k in range(w * h)]
            setting = [pond(w, h, most, p), table(p - 1, [0] + [most] * most), put(held)]
            asked = (0, 1, 7, 8, 100)
            self.assertEqual(ask_each(setting, [far(n) for n in asked]),
                             [ask(*setting, turns(n), CELLS)[-1] for n in asked])

    def test_it_changes_nothing(self):
        for n in (0, 1, 2, 600, 601, FARTHEST):
            for setting in (MIDWAY, SQUARE, PULSE + [put([1, 0, 0, 0, 0, 3]), turns(3)], SLOW + [turns(1)], [turns(0)]):
                self.check_unchanged(far(n), last(*setting, far(n)), setting)


class FarRefused(PondCase):
    def test_n(self):
        for wrong in (-1, FARTHEST + 1, -600, -FARTHEST, 2 * FARTHEST) + EXTREMES:
            for setting in (MIDWAY, SQUARE, [turns(0)]):
                self.check_refused(far(wrong), -7, setting)

    def test_a_course_that_does_not_come_round(self):
        for n in (601, 602, 1000, 1001, FARTHEST - 1, FARTHEST):
            self.check_refused(far(n), -8, SLOW)
            self.check_refused(far(n), -8, LARGE)

    def test_n_goes_first(self):
        for wrong in (-1, FARTHEST + 1) + EXTREMES:
            self.check_refused(far(wrong), -7, SLOW)
            self.check_refused(far(wrong), -7, LARGE)


class Rounds(PondCase):
    def test_by_hand(self):
        for setting, tail, turns_round in (
                (ONE_CELL + [put([5])], 1, 2),
                (ONE_CELL + [put([4])], 1, 2),
                (ONE_CELL + [put([3])], 0, 2),
                (TWO_CELLS, 4, 2),
                (SQUARE, 2, 2),
                (PULSE + [put([1, 0, 0, 0, 0, 0])], 1, 6),
                (PULSE + [put([1, 0, 0, 0, 0, 3])], 0, 6),
                (PULSE + [put([1, 0, 1, 0, 1, 0])], 1, 2),
                (PULSE + [put([1, 3, 1, 3, 1, 3])], 0, 2),
                (PULSE + [put([0] * 6)], 0, 2)):
            self.check_unchanged(ROUND, [tail, turns_round], setting)

    def test_it_goes_from_now(self):
        self.assertEqual(ask(*TWO_CELLS, *[ROUND, turns(1)] * 7)[6::2],
                         [[4, 2], [3, 2], [2, 2], [1, 2], [0, 2], [0, 2], [0, 2]])
        self.assertEqual(ask(*SQUARE, *[ROUND, turns(1)] * 4)[2::2], [[2, 2], [1, 2], [0, 2], [0, 2]])
        self.assertEqual(ask(*PULSE, put([1, 0, 0, 0, 0, 0]), *[ROUND, turns(1)] * 9)[6::2], [[1, 6]] + [[0, 6]] * 8)

    def test_the_season_comes_round_too(self):
        # The cells 1, 2 and 2, 1 come again after two turns, their season with them only after six.
        self.assertEqual(ask(*TO_AND_FRO, *[ROUND, turns(1)] * 4)[2::2], [[1, 6], [0, 6], [0, 6], [0, 6]])
        for p in range(1, 9):
            self.assertEqual(ask(pond(2, 3, 5, p), *[ROUND, turns(1)] * 9)[1::2], [[0, p]] * 9)

    def test_a_round_of_one(self):
        self.assertEqual(last(pond(6, 6, 60, 1), ROUND), [0, 1])
        self.assertEqual(last(pond(1, 1, 60, 1), graze(0, [1]), put([60]), ROUND), [60, 1])
        self.assertEqual(last(pond(1, 1, 60, 1), table(0, [*range(1, 61), 60]), ROUND), [60, 1])

    def test_before_the_first_call(self):
        self.assertEqual(ask(ROUND, table(0, [1, 1]), ROUND, turns(1), ROUND),
                         [[0, 1], [0], [1, 1], [1], [0, 1]])

    def test_a_cell_of_sixty_that_loses_one_a_year(self):
        # The tail is counted in turns: eight for each year, and the last unit goes in the season of its grazers.
        for s in range(8):
            setting = [pond(1, 1, 60, 8), graze(s, [1]), put([60])]
            self.assertEqual(last(*setting, ROUND), [59 * 8 + s + 1, 8])

    def test_it_changes_nothing(self):
        for setting in (MIDWAY, SQUARE, SLOW + [turns(1)], PULSE + [put([1, 1, 0, 0, 0, 0]), turns(3)], [turns(0)]):
            self.check_unchanged(ROUND, last(*setting, ROUND), setting)

    def test_refused(self):
        self.check_refused(ROUND, -8, SLOW)
        self.check_refused(ROUND, -8, LARGE)
        self.check_refused(ROUND, -8, LARGE + [turns(5)])


class JustSixHundred(PondCase):
    def test_together_601(self):
        asked = [far(n) for n in (0, 592, 593, 599, 600, 601, 602, FARTHEST)]
        self.assertEqual(ask_each(SLOW, asked + [ROUND]),
                         [[0, 38, 38], [0, 1, 1], [0, 1, 0], [0, 1, 0], [0, 1, 0], [-8], [-8], [-8], [-8]])

    def test_together_600(self):
        asked = [far(n) for n in (591, 592, 599, 600, 601, 602, FARTHEST)]
        self.assertEqual(ask_each(SLOW + [turns(1)], asked + [ROUND]),
                         [[0, 1, 1], [0, 1, 0], [0, 1, 0], [0, 1, 0], [0, 1, 0], [0, 1, 0], [0, 1, 0], [592, 8]])

    def test_from_one_turn_to_the_next(self):
        got = ask(*SLOW, *[far(601), ROUND, turns(1)] * 10)[3:]
        self.assertEqual(got[0::3], [[-8]] + [[0, 1, 0]] * 9)
        self.assertEqual(got[1::3], [[-8]] + [[593 - k, 8] for k in range(1, 10)])
        got = ask(*SLOW, turns(592), ROUND, turns(1), ROUND, turns(7), ROUND)
        self.assertEqual(got[4::2], [[1, 8], [0, 8], [0, 8]])

    def test_one_unit_more_is_a_year_more(self):
        for cells, past, expected in (([38, 39], 8, [-8]), ([38, 39], 9, [592, 8]), ([60, 60], 8 * 44, [-8]),
                                      ([60, 60], 8 * 44 + 1, [592, 8]), ([37, 38], 0, [585, 8])):
            self.assertEqual(last(pond(1, 2, 60, 8), graze(0, [0, 1]), put(cells), turns(past), ROUND), expected)

    def test_the_first_that_is_told_is_just_600(self):
        # Each turn takes one off a tail, so behind the last refusal tail and round must be together 600.
        for setting in (RESTLESS, [pond(4, 3, 60, 1), graze(0, [0] * 5 + [1] + [0] * 6), put([60] * 12)]):
            past = 0
            while past < 1000 and last(*setting, turns(past), ROUND) == [-8]:
                past += 1
            self.assertTrue(0 < past < 1000)
            here = setting + [turns(past)]
            tail, turns_round = last(*here, ROUND)
            self.assertEqual(tail + turns_round, 600)
            self.assertEqual(ask_each(here, [far(n) for n in range(595, 606)]), turn_by_turn(here, 606)[595:])
            self.assertEqual(last(*here, far(FARTHEST)), last(*here, far(tail + (FARTHEST - tail) % turns_round)))
            before = setting + [turns(past - 1)]
            self.assertEqual(ask_each(before, [ROUND, far(601), far(FARTHEST)]), [[-8], [-8], [-8]])
            self.assertEqual(ask_each(before, [far(599), far(600)]), turn_by_turn(before, 601)[599:])


class TurnByTurn(PondCase):
    def check_turns(self, setting, count):
        """Every far turn from 0 on is what the turns come to, or refused as the round is."""
        course = last(*setting, ROUND)
        walked = turn_by_turn(setting, count)
        if course == [-8]:
            walked[601:] = [[-8]] * max(0, count - 601)
        self.assertEqual(ask_each(setting, [far(n) for n in range(count)]), walked)

    def test_to_a_thousand(self):
        for setting in (ONE_CELL + [put([5]), turns(1)], MIDWAY, TO_AND_FRO + [turns(2)], SLOW, SLOW + [turns(1)],
                        RESTLESS, PULSE + [put([1, 0, 0, 0, 1, 2])], [put([1])]):
            self.check_turns(setting, 1001)

    def test_beyond_a_thousand(self):
        for setting in (MIDWAY, SQUARE, TO_AND_FRO, SLOW + [turns(1)], PULSE + [put([1, 0, 2, 0, 0, 0]), turns(1)]):
            asked = [1001, 1007, 2000, 2999, 3000, 7001, 12345]
            self.assertEqual(ask_each(setting, [far(n) for n in asked]),
                             [last(*setting, *later(n), CELLS) for n in asked])

    def test_by_the_round_beyond(self):
        for seed in range(60):
            setting = some_pond(random.Random(seed))
            course = last(*setting, ROUND)
            if course != [-8]:
                tail, turns_round = course
                for n in (601, 1001, 10 ** 6 + seed, 10 ** 17 + 7 * seed, FARTHEST - seed, FARTHEST):
                    near = tail + (n - tail) % turns_round
                    self.assertEqual(last(*setting, far(n)), last(*setting, *later(near), CELLS), (seed, n))

    def test_tail_and_round_are_those_of_the_turns(self):
        for seed in range(60):
            setting = some_pond(random.Random(seed))
            course = last(*setting, ROUND)
            if course != [-8]:
                tail, turns_round = course
                passed = [(answer[5], cells[1:]) for answer, cells in self.moments(setting, tail + turns_round + 1)]
                self.assertEqual(passed[tail + turns_round], passed[tail], seed)
                for k in range(1, tail + turns_round):
                    self.assertNotIn(passed[k], passed[:k], (seed, k))

    def moments(self, setting, count):
        got = []
        for k in range(count):
            got.append(ask(*setting, turns(k), TOLD, CELLS)[-2:])
        return got

    def test_against_the_model(self):
        for seed in range(150):
            draw = random.Random(7000 + seed)
            setting = some_pond(draw) + [turns(draw.randint(0, 9))]
            asked = [ROUND]
            asked += [far(n) for n in (0, draw.randint(1, 40), 600, 601, draw.randint(602, FARTHEST), FARTHEST)]
            model = Model()
            expected = [model.answer(call) for call in setting + asked]
            self.assertEqual(ask(*setting, *asked), expected, seed)


if __name__ == "__main__":
    unittest.main()
