"""Long lists of calls, drawn from fixed seeds, held against the slow model in helper.py."""

import random
import unittest

from helper import (BOOK, CELLS, EXTREMES, FARTHEST, GREATEST, LEAST, LOOK, ONE, PULSE, ROUND, SLOW, TOLD, Model,
                    PondCase, ask, below, far, get, graze, move, pond, put, some_pond, table, turns, yield_of)


def number_near(draw, low, high):
    """Most often within the range, else at its ends or just outside, seldom far away."""
    kind = draw.randrange(30)
    if kind == 0:
        return draw.choice((low - 1, high + 1))
    if kind == 1:
        return draw.choice(EXTREMES)
    if kind < 6:
        return draw.choice((low, high))
    return draw.randint(low, high)


def row_near(draw, size, high):
    size += draw.choice((0,) * 20 + (-1, 1))
    row = [draw.randint(0, high) for _ in range(size)]
    if row and draw.randrange(8) == 0:
        row[draw.randrange(size)] = number_near(draw, 0, high)
    return row


def table_near(draw, most):
    row = sorted(row_near(draw, most + 1, most))
    if draw.randrange(12) == 0:
        draw.shuffle(row)
    return row


def row_about(draw, row, high):
    """Mostly what the row holds or a little more, seldom less."""
    return [min(high, max(0, v + draw.choice((0, 0, 1, 2, high) * 3 + (-1,)))) for v in row]


def some_question(draw, model):
    """One of the calls far to yield, which go through a course or through years."""
    size = model.w * model.h
    kind = draw.randrange(10)
    if kind == 0:
        return far(number_near(draw, 0, FARTHEST))
    if kind == 1:
        return far(draw.choice((0, 1, 599, 600, 601, draw.randint(0, 50), draw.randint(500, 2000))))
    if kind == 2:
        return below(row_near(draw, size, model.most))
    if kind == 3:
        return below(row_about(draw, model.cells()[1:], model.most))
    if kind == 4:
        return move(number_near(draw, 0, 7), number_near(draw, 0, 7))
    if kind == 5:
        return yield_of(row_near(draw, size, draw.choice((1, 3, model.most, 100))))
    return (ROUND, GREATEST, LEAST, ONE)[kind - 6]


def some_call(draw, model):
    size = model.w * model.h
    kind = draw.randrange(32)
    if kind >= 20:
        return some_question(draw, model)
    if kind == 0:
        return pond(number_near(draw, 1, 6), number_near(draw, 1, 6), number_near(draw, 1, 60),
                    number_near(draw, 1, 8))
    if kind < 4:
        return table(number_near(draw, 0, model.p - 1), table_near(draw, model.most))
    if kind < 7:
        high = draw.choice((3, model.most, 100))
        return graze(number_near(draw, 0, model.p - 1), row_near(draw, size, high))
    if kind < 10:
        return put(row_near(draw, size, model.most))
    if kind == 10:
        return get(number_near(draw, 0, model.w - 1), number_near(draw, 0, model.h - 1))
    if kind < 16:
        n = number_near(draw, 0, 1000)
        # The model moves unit by unit, so a large pond gets few turns.
        return turns(n % 20 if 0 <= n <= 1000 and size * model.most > 60 else n)
    return draw.choice((TOLD, CELLS, BOOK))


def some_calls(seed):
    """A list of calls with the model's answers, begun with no pond of its own or with one that has a course to it."""
    draw = random.Random(seed)
    model = Model()
    calls = list(([], PULSE, SLOW, some_pond(draw), some_pond(draw))[seed % 5])
    expected = [model.answer(call) for call in calls]
    for _ in range(60):
        calls.append(some_call(draw, model))
        expected.append(model.answer(calls[-1]))
    return calls + LOOK, expected + [model.answer(call) for call in LOOK]


def some_questions(seed):
    """Questions alone, with turns and moves between, so that the pond stays the same."""
    draw = random.Random(seed)
    model = Model()
    calls = some_pond(draw)
    expected = [model.answer(call) for call in calls]
    for _ in range(30):
        calls.append(some_question(draw, model) if draw.randrange(3) else turns(draw.randint(0, 7)))
        expected.append(model.answer(calls[-1]))
    return calls + LOOK, expected + [model.answer(call) for call in LOOK]


class HeldAgainstTheModel(PondCase):
    def check_list(self, seed, calls, expected):
        for k, answer in enumerate(ask(*calls)):
            self.assertEqual(answer, expected[k], (seed, k, calls[k]))

    def test_lists_of_all_calls(self):
        for seed in range(150):
            self.check_list(seed, *some_calls(seed))

    def test_lists_of_questions(self):
        for seed in range(3000, 3100):
            self.check_list(seed, *some_questions(seed))

    def test_a_large_pond_for_a_thousand_turns(self):
        draw = random.Random(2026)
        setting = [pond(6, 6, 60, 8)]
        for s in range(8):
            setting.append(table(s, sorted(draw.randint(0, 60) for _ in range(61))))
            setting.append(graze(s, [draw.randint(0, 6) for _ in range(36)]))
        setting.append(put([draw.randint(0, 60) for _ in range(36)]))
        model = Model()
        calls = setting + [turns(1000)] + LOOK
        self.assertEqual(ask(*calls), [model.answer(call) for call in calls])

    def test_promise_1_at_every_step(self):
        for seed in range(1000, 1040):
            calls, _ = some_calls(seed)
            seen = ask(*[step for call in calls for step in (call, CELLS, BOOK)])
            for cells, book in zip(seen[1::3], seen[2::3]):
                first, grown, died, grazed, now = book[1:]
                self.assertEqual(first + grown, now + died + grazed, seed)
                self.assertEqual(now, sum(cells), seed)
                self.assertTrue(min(book) >= 0)


if __name__ == "__main__":
    unittest.main()
