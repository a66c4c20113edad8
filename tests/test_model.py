"""Whole lines of calls, each answer held against the model's."""

import random
import unittest
from math import comb

from tests import lines
from tests.model import Model, touch

CALLS = {"begin": lines.begin, "board": lines.board, "deal": lines.deal, "open": lines.open_, "flag": lines.flag,
         "chord": lines.chord, "set": lines.set_, "view": lines.view, "layouts": lines.layouts, "chance": lines.chance,
         "sure": lines.sure, "best": lines.best}

GAME_KINDS = ["open", "open", "flag", "flag", "chord", "chord", "chord", "deal"]
SET_KINDS = ["set", "set", "set", "deal", "open", "view"]
WEIGHING_KINDS = ["layouts", "chance", "chance", "sure", "best", "view"]

# The model tries every set of as many dark cells as there are mines.
MOST_SETS = 800


def any_board(dice):
    width, height = dice.choice([(1, 2), (3, 1), (2, 2), (4, 3), (3, 5), (6, 6), (8, 5), (1, 16), (16, 1), (12, 9)])
    most = width * height - 1
    return width, height, dice.choice([1, min(2, most), max(1, most // 6), max(1, most // 4), most])


def any_cell(dice, model):
    if model.cells is None or dice.random() < 0.04:
        return dice.randrange(-1, 17), dice.randrange(-1, 17)
    mined = sorted(model.mined or [])
    if mined and dice.random() < 0.3:
        return dice.choice(mined)
    return dice.choice(model.cells)


def any_number(dice, cell, hidden):
    """Mostly what the cell would show if these were the mines, so that there are layouts again and again."""
    if dice.random() < 0.15:
        return dice.choice([9, 9, 9, *range(9), -1, 10, lines.LOWEST, lines.HIGHEST])
    return 9 if cell in hidden else sum(touch(cell, mine) for mine in hidden)


def any_most(dice, model):
    cells = len(model.cells or [])
    return dice.choice([256, 256, 65536, cells, cells - 1, 65537, 0, -1, lines.LOWEST, lines.HIGHEST])


def can_be_weighed(model):
    return model.cells is None or comb(len(model.dark()), model.mines) <= MOST_SETS or len(model.edge()) > 24


def any_kind(dice, model):
    if dice.random() < 0.02:
        return dice.choice(["begin", "board"])
    if dice.random() < 0.3 and can_be_weighed(model):
        return dice.choice(WEIGHING_KINDS)
    return dice.choice(SET_KINDS if model.cells and model.mined is None else [*GAME_KINDS, "set"])


def any_call(dice, model, hidden):
    kind = any_kind(dice, model)
    if kind in ("begin", "layouts", "sure", "best"):
        return kind, ()
    if kind == "board":
        if dice.random() < 0.7:
            return kind, any_board(dice)
        return kind, (dice.randrange(-1, 18), dice.randrange(-1, 18), dice.randrange(-1, 300))
    if kind == "view":
        return kind, (any_most(dice, model),)
    x, y = any_cell(dice, model)
    if kind == "open" and model.cells and model.mined and (x, y) in model.mined and dice.random() < 0.9:
        kind = "flag"
    if kind == "deal":
        return kind, (dice.randrange(2 ** 64), x, y)
    if kind == "set":
        return kind, (x, y, any_number(dice, (x, y), hidden))
    return kind, (x, y)


def any_line(dice, length, deals):
    """A line that begins with a board and often a deal, and what the model answers to it."""
    model, hidden = Model(), []
    calls, answers = [], []
    for place in range(length):
        kind, numbers = any_call(dice, model, hidden)
        if place == 0:
            kind, numbers = "begin", ()
        elif place == 1 or (model.cells is None and dice.random() < 0.2) or (
                model.cells and model.over and dice.random() < 0.1):
            kind, numbers = "board", any_board(dice)
        elif model.cells and model.mined is None and dice.random() < deals:
            kind, numbers = "deal", (dice.randrange(2 ** 64), *dice.choice(model.cells))
        calls.append(CALLS[kind](*numbers))
        answers.append(model.answer(kind, numbers))
        if kind == "board" and model.cells:
            hidden = dice.sample(model.cells, model.mines)
    return calls, answers


class WholeLines(unittest.TestCase):
    def check(self, seed, deals, lengths, expected):
        dice = random.Random(seed)
        told = {}
        for length in lengths:
            calls, answers = any_line(dice, length, deals)
            self.assertEqual(lines.told(*calls), answers, calls)
            for call, answer in zip(calls, answers):
                told[call[0], answer[0]] = told.get((call[0], answer[0]), 0) + 1
        for call, answer in expected:
            self.assertGreater(told.get((call, answer), 0), 5, (call, answer))

    def test_games(self):
        self.check(20, 0.7, [3, 10, 40, 120, 400] * 30, [
            (2, 1), (2, 3), (2, -1), (3, 0), (3, 1), (3, 2), (3, 3), (3, -2), (4, 0), (4, 1), (4, -1), (4, -2), (5, 0),
            (5, 1), (5, 2), (5, 3), (5, -1), (5, -2), (6, -1), (8, 0), (9, 0), (9, -1), (10, 0), (11, 0)])

    def test_set_boards(self):
        self.check(22, 0.01, [3, 10, 40, 120, 400] * 30, [
            (6, 0), (6, -1), (7, -2), (7, -4), (8, 0), (8, -3), (8, -4), (9, 0), (9, -1), (9, -2), (9, -3), (9, -4),
            (10, 0), (10, 1), (10, 2), (10, -2), (10, -3), (10, -4), (11, 0), (11, -2), (11, -3), (11, -4)])

    def test_the_largest_boards(self):
        dice = random.Random(21)
        for mines in [1, 10, 40, 128, 255]:
            model = Model()
            calls = [("begin", ()), ("board", (16, 16, mines)), ("deal", (dice.randrange(2 ** 64), 15, 0))]
            calls += [("open", (dice.randrange(16), dice.randrange(16))) for _ in range(20)] + [("view", (256,))]
            answers = [model.answer(kind, numbers) for kind, numbers in calls]
            self.assertEqual(lines.told(*[CALLS[kind](*numbers) for kind, numbers in calls]), answers)


if __name__ == "__main__":
    unittest.main()
