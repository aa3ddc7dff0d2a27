"""The interface: one list of calls handed in, one list of answers given back, and nothing kept."""

import contextlib
import io
import unittest

from helper import (BOOK, CELLS, FARTHEST, GREATEST, LEAST, LOOK, MIDWAY, ONE, PULSE, ROUND, SLOW, TOLD, PondCase, ask,
                    below, far, get, graze, joined, last, move, pond, put, table, turns, yield_of)
from pondyears.pond import answers

REFUSED = [pond(7, 1, 1, 1), table(0, []), graze(3, []), put([1]), get(3, 0), turns(-1), far(-1), below([]), move(8, 0),
           yield_of([101] * 6)]
ASKED = [far(5), far(FARTHEST), ROUND, GREATEST, LEAST, ONE, below([9] * 6), below([0] * 6),
         yield_of([0, 1, 2, 3, 100, 0])]
WITH_REFUSALS = joined(MIDWAY + REFUSED + LOOK + ASKED + [move(7, 6)] + LOOK + ASKED + SLOW + [far(601), ROUND] + LOOK)

# Each of the calls that came later, alone in its list.
LATER = [far(601), ROUND, GREATEST, LEAST, ONE, below([0]), move(7, 7), yield_of([100])]


class KeptAsItIs(list):
    """A list that can be read but not changed."""

    def changed(self, *args, **kwargs):
        raise AssertionError("the list that was handed in is changed")

    __setitem__ = __delitem__ = __iadd__ = __imul__ = changed
    append = clear = extend = insert = pop = remove = reverse = sort = changed


class OneList(PondCase):
    def test_counts_and_answers_as_they_stand(self):
        calls = [0, 2, 1, 3, 1, 3, 2, 3, 1, 6, 5, 0, 0, 5, 2, 0, 1, 0, 0, 2, 0, 2, 0, 100, 7, 1, 4, 8]
        self.assertEqual(answers(calls), [1, 0, 1, 4, 3, 0, 3, 1, 1, 3, 1, -6, 1, -5, 1, 0, 1, 3,
                                          12, 0, 2, 1, 3, 1, 0, 0, 1, 2, 3, 0, 100,
                                          6, 0, 4, 0, 0, 1, 3])

    def test_counts_and_answers_of_the_later_calls(self):
        # Of 3 units in one of two cells 2 go to the other, and from then on one goes to and fro.
        calls = [0, 1, 2, 3, 1, 3, 2, 3, 0, 9, 0, 9, 601, 10, 11, 12, 13, 14, 2, 3, 0, 14, 2, 2, 3, 15, 0, 1, 6,
                 16, 2, 1, 0, 16, 0, 16, 2, 0, 101, 9, -1, 15, 8, 0, 14, 1, 0, 8]
        self.assertEqual(answers(calls), [1, 0, 1, 3, 3, 0, 3, 0, 3, 0, 1, 2, 2, 1, 2, 3, 0, 3, 3, 3, 0, 0, 0, 1, 0,
                                          1, 1, 2, 0, 0, 1, 0, 3, 0, 0, 3, 2, 0, 1, 1, -6, 1, -6, 1, -7, 1, -7, 1, -6,
                                          6, 0, 3, 0, 0, 0, 3])

    def test_a_refusal_on_the_way_round(self):
        self.assertEqual(answers(joined(SLOW) + [9, 601, 10, 9, 600, 7, 1, 10])[6:],
                         [1, -8, 1, -8, 3, 0, 1, 0, 1, 75, 2, 592, 8])

    def test_a_row_with_numbers_like_calls_is_still_a_row(self):
        self.assertEqual(ask(put([0, 6, 6, 60, 8]), table(0, [4, 8]), graze(5, [0, 1, 1, 1, 1]), CELLS),
                         [[-6], [-5], [-4], [0, 0]])
        self.assertEqual(ask(below([0, 6, 6, 60, 8]), yield_of([13, 13]), far(10), move(7, 6), below([1]),
                             yield_of([16])),
                         [[-6], [-6], [0, 0], [0], [1], [0, 0]])

    def test_four_hundred_calls(self):
        setting = [pond(1, 1, 60, 1), table(0, [*range(1, 61), 60])]
        got = ask(*setting, *[turns(1)] * 397, BOOK)
        self.assertEqual(len(got), 400)
        self.assertEqual(got[2:-1], [[min(n, 60)] for n in range(1, 398)])
        self.assertEqual(got[-1], [0, 0, 60, 0, 0, 60])

    def test_four_hundred_of_the_later_calls(self):
        setting = PULSE + [put([1, 0, 0, 0, 0, 3])]
        asked = [far(FARTHEST), ROUND, GREATEST, LEAST, ONE, below([3] * 6), yield_of([0] * 6), move(6, 7)]
        got = ask(*setting, *asked * 49)[6:]
        self.assertEqual(len(got), 392)
        self.assertEqual(got, got[:8] * 49)
        self.assertEqual(got[1:3] + got[4:6] + got[7:8], [[0, 6], [1, 1, 3, 1, 3, 1, 3], [0], [1], [0]])

    def test_long_lists(self):
        for call, refusal in ((table(0, [0] * 15900), -5), (graze(0, [0] * 15900), -6), (put([0] * 15900), -6),
                              (below([0] * 15900), -6), (yield_of([0] * 15900), -6)):
            self.assertEqual(ask(pond(2, 2, 3, 1), put([1, 2, 3, 1]), call, CELLS)[2:], [[refusal], [0, 1, 2, 3, 1]])

    def test_whole_numbers_alone(self):
        given = answers(WITH_REFUSALS)
        self.assertIs(type(given), list)
        self.assertEqual({type(number) for number in given}, {int})


class NothingIsChanged(PondCase):
    def test_the_list_is_the_same_afterwards(self):
        for calls in (joined(MIDWAY), joined(MIDWAY + ASKED), WITH_REFUSALS, [4], *LATER):
            handed = list(calls)
            answers(handed)
            self.assertEqual(handed, calls)

    def test_not_for_a_while_either(self):
        for calls in (joined(MIDWAY), joined(MIDWAY + ASKED), WITH_REFUSALS, [4], *LATER):
            self.assertEqual(answers(KeptAsItIs(calls)), answers(calls))

    def test_nothing_is_printed(self):
        out = io.StringIO()
        with contextlib.redirect_stdout(out), contextlib.redirect_stderr(out):
            answers(list(WITH_REFUSALS))
        self.assertEqual(out.getvalue(), "")


class NothingIsKept(PondCase):
    def test_a_second_time_answers_the_same(self):
        for calls in (joined(MIDWAY + LOOK), joined(MIDWAY + ASKED), WITH_REFUSALS, [4], [6], [8], *LATER):
            once = answers(list(calls))
            self.assertEqual(answers(list(calls)), once)

    def test_every_list_begins_with_the_first_pond(self):
        for calls in (MIDWAY, [pond(6, 6, 60, 8)], [put([1])], [table(0, [1, 1]), graze(0, [7]), turns(3)],
                      [table(0, [1, 1]), GREATEST, LEAST, ONE, yield_of([1]), far(601), ROUND, move(1, 1)]):
            ask(*calls)
            self.assertEqual(ask(TOLD, CELLS, BOOK),
                             [[0, 1, 1, 1, 1, 0, 0, 1, 0], [0, 0], [0, 0, 0, 0, 0, 0]])
            self.assertEqual(ask(GREATEST, LEAST, ONE, ROUND, far(601), yield_of([1])),
                             [[0, 1], [0, 0], [0], [0, 1], [0, 0], [0, 0]])

    def test_what_was_given_back_may_be_changed(self):
        first = answers(list(WITH_REFUSALS))
        kept = list(first)
        for k in range(len(first)):
            first[k] = 77
        self.assertEqual(answers(list(WITH_REFUSALS)), kept)

    def test_one_row_given_to_two_seasons(self):
        row = [1, 1, 2]
        got = last(pond(1, 2, 2, 2), table(0, row), table(1, row), table(0, [0, 0, 0]), graze(0, [1, 2]),
                   graze(1, [3, 4]), TOLD)
        self.assertEqual(got, [0, 1, 2, 2, 2, 0, 0, 0, 0, 1, 1, 2, 1, 2, 3, 4])


if __name__ == "__main__":
    unittest.main()
