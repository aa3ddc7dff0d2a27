"""Long lists of calls, drawn from fixed seeds, held against the slow model in helper.py."""

import random
import unittest

from helper import BOOK, CELLS, EXTREMES, LOOK, TOLD, Model, PondCase, ask, get, graze, pond, put, table, turns


def number_near(draw, low, high):
    """Most often within the range, else at its ends or just outside, seldom far away."""
    kind = draw.randrange(30)
    if kind == 0:
        return draw.choice((low - 1, high + 1))
    if kind == 1:
        return draw.choice(EXTREMES)
    if kind < 6:
        return draw.choice((low, high))
    return draw.randint(low, high)


def row_near(draw, size, high):
    size += draw.choice((0,) * 20 + (-1, 1))
    row = [draw.randint(0, high) for _ in range(size)]
    if row and draw.randrange(8) == 0:
        row[draw.randrange(size)] = number_near(draw, 0, high)
    return row


def table_near(draw, most):
    row = sorted(row_near(draw, most + 1, most))
    if draw.randrange(12) == 0:
        draw.shuffle(row)
    return row


def some_call(draw, model):
    size = model.w * model.h
    kind = draw.randrange(20)
    if kind == 0:
        return pond(number_near(draw, 1, 6), number_near(draw, 1, 6), number_near(draw, 1, 60),
                    number_near(draw, 1, 8))
    if kind < 4:
        return table(number_near(draw, 0, model.p - 1), table_near(draw, model.most))
    if kind < 7:
        high = draw.choice((3, model.most, 100))
        return graze(number_near(draw, 0, model.p - 1), row_near(draw, size, high))
    if kind < 10:
        return put(row_near(draw, size, model.most))
    if kind == 10:
        return get(number_near(draw, 0, model.w - 1), number_near(draw, 0, model.h - 1))
    if kind < 16:
        n = number_near(draw, 0, 1000)
        # The model moves unit by unit, so a large pond gets few turns.
        return turns(n % 20 if 0 <= n <= 1000 and size * model.most > 60 else n)
    return draw.choice((TOLD, CELLS, BOOK))


def some_calls(seed):
    """A list of calls with the model's answers."""
    draw = random.Random(seed)
    model = Model()
    calls = []
    expected = []
    for _ in range(60):
        calls.append(some_call(draw, model))
        expected.append(model.answer(calls[-1]))
    return calls + LOOK, expected + [model.answer(call) for call in LOOK]


class HeldAgainstTheModel(PondCase):
    def test_lists_of_all_calls(self):
        for seed in range(120):
            calls, expected = some_calls(seed)
            got = ask(*calls)
            for k, answer in enumerate(got):
                self.assertEqual(answer, expected[k], (seed, k, calls[k]))

    def test_a_large_pond_for_a_thousand_turns(self):
        draw = random.Random(2026)
        setting = [pond(6, 6, 60, 8)]
        for s in range(8):
            setting.append(table(s, sorted(draw.randint(0, 60) for _ in range(61))))
            setting.append(graze(s, [draw.randint(0, 6) for _ in range(36)]))
        setting.append(put([draw.randint(0, 60) for _ in range(36)]))
        model = Model()
        calls = setting + [turns(1000)] + LOOK
        self.assertEqual(ask(*calls), [model.answer(call) for call in calls])

    def test_promise_1_at_every_step(self):
        for seed in range(1000, 1040):
            calls, _ = some_calls(seed)
            seen = ask(*[step for call in calls for step in (call, CELLS, BOOK)])
            for cells, book in zip(seen[1::3], seen[2::3]):
                first, grown, died, grazed, now = book[1:]
                self.assertEqual(first + grown, now + died + grazed, seed)
                self.assertEqual(now, sum(cells), seed)
                self.assertTrue(min(book) >= 0)


if __name__ == "__main__":
    unittest.main()
