"""The document's promises 1 to 5, each over many ponds and over all calls."""

import random
import unittest

from helper import (BOOK, CELLS, FARTHEST, GREATEST, LEAST, MIDWAY, ONE, ONE_CELL, PULSE, ROUND, SLOW, TOLD, TWO_CELLS,
                    PondCase, ask, below, far, get, graze, last, later, move, pond, put, some_pond, some_wants, table,
                    turns, yield_of)

NAMED = (MIDWAY, ONE_CELL, TWO_CELLS, PULSE, SLOW, [pond(1, 1, 1, 1)], [pond(6, 6, 60, 8)])


def some_ponds(seed, count):
    return [some_pond(random.Random(seed + k)) for k in range(count)]


def shape(setting):
    """How many cells there are, the most that one holds, and how many seasons."""
    w, h, most, p = setting[0][1:]
    return w * h, most, p


def no_more(cells, than):
    return all(v <= top for v, top in zip(cells, than, strict=True))


class Promise1(PondCase):
    def check_books(self, book, cells):
        first, grown, died, grazed, now = book[1:]
        self.assertEqual(first + grown, now + died + grazed)
        self.assertEqual(now, sum(cells[1:]))

    def test_after_each_of_all_calls(self):
        for k, setting in enumerate([*NAMED, *some_ponds(100, 60)]):
            draw = random.Random(k)
            size, most, p = shape(setting)
            row = [draw.randint(0, most) for _ in range(size)]
            calls = [*setting, turns(p + 1), move(1, 0), turns(1), far(3), far(601), ROUND, GREATEST, LEAST, ONE,
                     below(row), yield_of(some_wants(draw, size)), move(7, 5), turns(2 * p + 1), TOLD, get(0, 0),
                     graze(p - 1, some_wants(draw, size)), turns(p), put(row), turns(3), move(2, 2), turns(5)]
            seen = ask(*[step for call in calls for step in (call, BOOK, CELLS)])
            for book, cells in zip(seen[1::3], seen[2::3]):
                self.check_books(book, cells)

    def test_spreading_loses_none(self):
        for w in range(1, 7):
            for h in range(1, 7):
                held = [(17 * k + 5 * w + h) % 61 for k in range(w * h)]
                got = ask(pond(w, h, 60, 3), put(held), far(1), far(10), far(600), GREATEST, LEAST)[2:]
                self.assertEqual([sum(cells) for cells in got], [sum(held)] * 3 + [60 * w * h, 0])


class Promise2(PondCase):
    def test_no_cell_ever_holds_more_than_in_a_fuller_pond(self):
        for k, setting in enumerate([*NAMED, *some_ponds(200, 60)]):
            draw = random.Random(k)
            size, most, p = shape(setting)
            low = [draw.randint(0, most) for _ in range(size)]
            high = [min(most, v + draw.choice((0, 0, 0, 1, most))) for v in low]
            there = [answer[1:] for answer in ask(*setting, put(high), *[CELLS, turns(1)] * 30)[len(setting) + 1::2]]
            asked = [step for cells in there for step in (below(cells), turns(1))]
            self.assertEqual(ask(*setting, put(low), *asked)[len(setting) + 1::2], [[1]] * 30, k)
            for n in (100, 600, 601, FARTHEST):
                fuller = last(*setting, put(high), far(n))
                emptier = last(*setting, put(low), far(n))
                if fuller != [-8] and emptier != [-8]:
                    self.assertTrue(no_more(emptier, fuller), (k, n))

    def test_no_cell_ever_holds_more_where_more_is_wanted(self):
        for k, setting in enumerate([*NAMED, *some_ponds(300, 60)]):
            draw = random.Random(k)
            size, most, p = shape(setting)
            held = put([draw.randint(0, most) for _ in range(size)])
            few, many = [], []
            for s in range(p):
                wants = some_wants(draw, size)
                few.append(graze(s, wants))
                many.append(graze(s, [min(100, want + draw.choice((0, 0, 1, 3, 100))) for want in wants]))
            before = len(setting) + p + 1
            with_few = ask(*setting, *few, held, *[CELLS, turns(1)] * 30, GREATEST, LEAST)[before:]
            with_many = ask(*setting, *many, held, *[CELLS, turns(1)] * 30, GREATEST, LEAST)[before:]
            for there, here in zip(with_few[:60:2], with_many[:60:2]):
                self.assertTrue(no_more(here, there), k)
            for there, here in zip(with_few[60:], with_many[60:]):
                self.assertTrue(no_more(here[1:], there[1:]), k)

    def test_it_says_more_than_that_all_is_empty(self):
        # Ponds that fall bare at once would keep the promises whatever is written.
        alive = [any(last(*setting, GREATEST)[1:]) for setting in some_ponds(200, 60)]
        self.assertTrue(alive.count(True) > 20)


class Promise3(PondCase):
    def check_between(self, setting, held):
        """From these cells on the years end between the least and the greatest, once they have had time to."""
        size, most, p = shape(setting)
        years_down, *greatest = last(*setting, GREATEST)
        years_up, *least = last(*setting, LEAST)
        self.assertTrue(no_more(least, greatest))
        calls = [*setting, put(held), *later(p * max(years_down, years_up))]
        for cells in ask(*calls, *[CELLS, turns(p)] * 5)[len(calls)::2]:
            self.assertTrue(no_more(least, cells[1:]), held)
            self.assertTrue(no_more(cells[1:], greatest), held)

    def test_years_end_between_least_and_greatest(self):
        for k, setting in enumerate([*NAMED, *some_ponds(400, 80)]):
            draw = random.Random(k)
            size, most, p = shape(setting)
            for held in ([0] * size, [most] * size, [draw.randint(0, most) for _ in range(size)],
                         [draw.choice((0, most)) for _ in range(size)]):
                self.check_between(setting, held)

    def test_from_every_cell_that_there_can_be(self):
        for v in range(6):
            self.check_between(ONE_CELL, [v])
        for first in range(11):
            for second in range(11):
                self.check_between(TWO_CELLS, [first, second])

    def test_each_year_repeats_them(self):
        for setting in [*NAMED, *some_ponds(500, 80)]:
            p = shape(setting)[2]
            for call in (GREATEST, LEAST):
                cells = last(*setting, call)[1:]
                got = ask(*setting, put(cells), *[turns(p), CELLS] * 3, far(600 * p), ROUND)[len(setting) + 1:]
                self.assertEqual(got[1:7:2] + [got[6]], [[0] + cells] * 4)
                self.assertEqual(got[7], [0, p])

    def test_if_they_are_one_every_course_comes_to_it(self):
        ones = 0
        for k, setting in enumerate([*NAMED, *some_ponds(600, 80)]):
            draw = random.Random(k)
            size, most, p = shape(setting)
            if last(*setting, ONE) == [0]:
                continue
            ones += 1
            cells = last(*setting, GREATEST)[1:]
            self.assertEqual(last(*setting, LEAST)[1:], cells)
            for past in (0, 1, p):
                held = put([draw.randint(0, most) for _ in range(size)])
                n = 10 ** 9 * p - past
                far_cells, course = ask(*setting, held, turns(past), far(n), ROUND)[-2:]
                self.assertEqual(far_cells, [0] + cells)
                self.assertEqual(course[1], p)
        self.assertTrue(ones > 20)

    def test_if_they_are_not_one_it_is_told(self):
        for setting in [*NAMED, *some_ponds(600, 80)]:
            greatest, least, one = ask(*setting, GREATEST, LEAST, ONE)[-3:]
            self.assertEqual(one, [1 if greatest[1:] == least[1:] else 0])


class Promise4(PondCase):
    def test_a_far_turn_is_what_turns_come_to(self):
        for k, setting in enumerate([*NAMED, *some_ponds(700, 60)]):
            draw = random.Random(k)
            here = setting + [turns(draw.randint(0, 9))]
            for n in (0, 1, draw.randint(2, 99), 599, 600, 601, draw.randint(602, 999), 1000, draw.randint(1001, 3000)):
                told, course = ask(*here, far(n), ROUND)[-2:]
                if n > 600 and course == [-8]:
                    self.assertEqual(told, [-8], (k, n))
                else:
                    self.assertEqual(told, last(*here, *later(n), CELLS), (k, n))


class Promise5(PondCase):
    def check_year(self, wanted, told):
        """`wanted` has the yield's wants in every season, and `told` is what yield answers of them."""
        p = shape(wanted)[2]
        cells = last(*wanted, GREATEST)[1:]
        first, grown, died, grazed, now = last(*wanted, put(cells), turns(p), BOOK)[1:]
        self.assertEqual(grazed, grown - died)
        self.assertEqual(first, now)
        self.assertEqual(told, [grazed, sum(cells)])

    def test_yield_is_what_grows_less_what_dies(self):
        grazed = 0
        for k, setting in enumerate([*NAMED, *some_ponds(800, 100)]):
            draw = random.Random(k)
            size, most, p = shape(setting)
            for wants in ([0] * size, [100] * size, [1] * size, some_wants(draw, size)):
                told = last(*setting, yield_of(wants))
                self.check_year(setting + [graze(s, wants) for s in range(p)], told)
                grazed += told[0] > 0
        self.assertTrue(grazed > 100)

    def test_with_the_wants_that_there_are(self):
        for setting in [*NAMED, *some_ponds(900, 60)]:
            p = shape(setting)[2]
            cells = last(*setting, GREATEST)[1:]
            first, grown, died, grazed, now = last(*setting, put(cells), turns(p), BOOK)[1:]
            self.assertEqual(grazed, grown - died)
            self.assertEqual(first, now)

    def test_by_hand(self):
        # Season 0 grows 3 to 6, of which 4 and 2 are left by spreading; each loses one, and the 1 left is grazed.
        setting = TWO_CELLS + [graze(0, [0, 100]), graze(1, [0, 100])]
        self.assertEqual(last(*setting, GREATEST), [2, 3, 0])
        self.assertEqual(last(*setting, put([3, 0]), turns(2), BOOK), [0, 3, 3, 2, 1, 3])
        self.assertEqual(last(*setting, yield_of([0, 100])), [1, 3])


if __name__ == "__main__":
    unittest.main()
