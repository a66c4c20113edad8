"""Whole lines of calls, each answer held against the model's."""

import random
import unittest

from tests import lines
from tests.model import Model

CALLS = {"begin": lines.begin, "board": lines.board, "deal": lines.deal, "open": lines.open_, "flag": lines.flag,
         "chord": lines.chord}


def any_board(dice):
    width, height = dice.choice([(1, 2), (3, 1), (2, 2), (4, 3), (3, 5), (6, 6), (8, 5), (1, 16), (16, 1), (12, 9)])
    most = width * height - 1
    return width, height, dice.choice([1, min(2, most), max(1, most // 6), max(1, most // 4), most])


def any_cell(dice, model):
    if model.cells is None or dice.random() < 0.04:
        return dice.randrange(-1, 17), dice.randrange(-1, 17)
    mined = sorted(model.mined or [])
    if mined and dice.random() < 0.3:
        return dice.choice(mined)
    return dice.choice(model.cells)


def any_call(dice, model):
    kinds = ["open", "open", "flag", "flag", "chord", "chord", "chord", "deal"]
    kind = dice.choice(kinds) if dice.random() > 0.02 else dice.choice(["begin", "board"])
    if kind == "begin":
        return kind, ()
    if kind == "board":
        if dice.random() < 0.7:
            return kind, any_board(dice)
        return kind, (dice.randrange(-1, 18), dice.randrange(-1, 18), dice.randrange(-1, 300))
    x, y = any_cell(dice, model)
    if kind == "open" and model.cells and model.mined and (x, y) in model.mined and dice.random() < 0.9:
        kind = "flag"
    if kind == "deal":
        return kind, (dice.randrange(2 ** 64), x, y)
    return kind, (x, y)


def any_line(dice, length):
    """A line that begins with a board and a deal, and what the model answers to it."""
    model = Model()
    calls, answers = [], []
    for place in range(length):
        kind, numbers = any_call(dice, model)
        if place == 0:
            kind, numbers = "begin", ()
        elif place == 1 or model.cells is None or (model.over and dice.random() < 0.3):
            kind, numbers = "board", any_board(dice)
        elif model.mined is None and dice.random() < 0.7:
            kind, numbers = "deal", (dice.randrange(2 ** 64), *dice.choice(model.cells))
        calls.append(CALLS[kind](*numbers))
        answers.append(getattr(model, kind)(*numbers))
    return calls, answers


class WholeLines(unittest.TestCase):
    def test_they_answer_as_the_model_does(self):
        dice = random.Random(20)
        told = {}
        for length in [3, 10, 40, 120, 400] * 30:
            calls, answers = any_line(dice, length)
            self.assertEqual(lines.replies(*calls), answers, calls)
            for call, answer in zip(calls, answers):
                told[call[0], answer] = told.get((call[0], answer), 0) + 1
        for call, answer in [(2, 1), (2, 3), (2, -1), (3, 0), (3, 1), (3, 2), (3, 3), (3, -2), (4, 0), (4, 1), (4, -1),
                             (4, -2), (5, 0), (5, 1), (5, 2), (5, 3), (5, -1), (5, -2)]:
            self.assertGreater(told.get((call, answer), 0), 5, (call, answer))

    def test_the_largest_boards(self):
        dice = random.Random(21)
        for mines in [1, 10, 40, 128, 255]:
            model = Model()
            calls = [("begin", ()), ("board", (16, 16, mines)), ("deal", (dice.randrange(2 ** 64), 15, 0))]
            calls += [("open", (dice.randrange(16), dice.randrange(16))) for _ in range(20)]
            answers = [getattr(model, kind)(*numbers) for kind, numbers in calls]
            self.assertEqual(lines.replies(*[CALLS[kind](*numbers) for kind, numbers in calls]), answers)


if __name__ == "__main__":
    unittest.main()
