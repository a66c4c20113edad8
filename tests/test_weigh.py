"""Promises 9 to 12 held against a plain count over all sets of dark cells, and on larger boards against a search."""

import random
import unittest

from tests import lines
from tests.model import Model, plain_count, searched_count

SMALL = [(1, 2), (2, 1), (2, 2), (5, 1), (1, 6), (3, 3), (4, 2), (2, 5), (4, 3), (3, 4), (11, 1)]


def any_set_board(dice, width, height, share, fault):
    """Some cells of a random layout shown, now and then one of them wrongly."""
    cells = lines.cells(width, height)
    mines = dice.randrange(1, len(cells))
    model = Model()
    model.board(width, height, mines)
    hidden = set(dice.sample(cells, mines))
    shown = [cell for cell in cells if cell not in hidden and dice.random() < share]
    numbers = {cell: len(model.around[cell] & hidden) for cell in shown}
    if shown and dice.random() < fault:
        numbers[dice.choice(shown)] = dice.randrange(9)
    sets = [lines.set_(*cell, number) for cell, number in numbers.items()]
    return [lines.begin(), lines.board(width, height, mines), *sets]


class Weighed(unittest.TestCase):
    def check(self, model, width, height, calls):
        """Ask all that can be asked of the board behind these calls."""
        kinds = [("layouts", ()), ("sure", ()), ("best", ())]
        kinds += [("chance", cell) for cell in lines.cells(width, height)]
        asked = [getattr(lines, kind)(*numbers) for kind, numbers in kinds]
        answers = [model.answer(kind, numbers) for kind, numbers in kinds]
        self.assertEqual(lines.told(*calls, *asked)[len(calls):], answers, calls)
        return answers

    def follow(self, model, calls):
        """Hand the same calls to the model; give back the number that it answers to the last of them."""
        kinds = ["begin", "board", "deal", "open", "flag", "chord", "set"]
        for call in calls:
            answer = model.answer(kinds[call[0]], call[1:])
        return answer[0]


class SetBoards(Weighed):
    def test_small_boards(self):
        dice = random.Random(30)
        told = {"no layouts": 0, "one": 0, "several": 0, "sure": 0, "none is sure": 0}
        for width, height in SMALL * 25:
            calls = any_set_board(dice, width, height, dice.choice([0.2, 0.5, 0.8, 1]), 0.2)
            model = Model()
            self.follow(model, calls)
            answers = self.check(model, width, height, calls)
            count = lines.number_of(answers[0][1:])
            told["no layouts" if count == 0 else "one" if count == 1 else "several"] += 1
            if count:
                told["sure" if answers[1][0] else "none is sure"] += 1
        self.assertGreater(min(told.values()), 20, told)

    def test_every_number_of_mines(self):
        for picture in [["...", ".2.", "..."], [".1..", "..2.", "...."], ["1....2", "......"], ["..1.", "1..."]]:
            width, height = len(picture[0]), len(picture)
            for mines in range(1, width * height):
                calls = lines.set_up(mines, *picture)
                model = Model()
                self.follow(model, calls)
                self.check(model, width, height, calls)


class Games(Weighed):
    def play(self, dice, model, width, height, mines, wanted):
        """A game with some flags that goes on, is lost or is won, as wanted (1, 2, 3); None where that fails."""
        cells = lines.cells(width, height)
        calls = [lines.begin(), lines.board(width, height, mines),
                 lines.deal(dice.randrange(2 ** 64), dice.randrange(width), dice.randrange(height))]
        answer = self.follow(model, calls)
        for cell in dice.sample(cells, len(cells)):
            if answer in (2, 3) or (wanted != 3 and dice.random() < 0.2):
                break
            if cell in model.shown:
                continue
            call = lines.flag(*cell) if cell in model.mined and wanted != 2 else lines.open_(*cell)
            calls.append(call)
            told = self.follow(model, [call])
            answer = told if call[0] == 3 else answer
        if wanted == 2 and not model.over:
            calls.append(lines.open_(*dice.choice(sorted(model.mined))))
            answer = self.follow(model, calls[-1:])
        return calls if answer == wanted else None

    def test_small_boards(self):
        dice = random.Random(31)
        for wanted in [1, 2, 3]:
            games = 0
            for width, height in SMALL * 15:
                model = Model()
                most = width * height - 1
                calls = self.play(dice, model, width, height, dice.randrange(1, max(2, most // 2)), wanted)
                if calls is not None:
                    self.check(model, width, height, calls)
                    games += 1
            self.assertGreater(games, 30, wanted)


class LargerBoards(Weighed):
    def test_the_search_itself_on_small_boards(self):
        dice = random.Random(32)
        for width, height in SMALL * 6:
            calls = any_set_board(dice, width, height, dice.choice([0.2, 0.5, 0.8]), 0.2)
            model = Model()
            self.follow(model, calls)
            board = (model.around, model.shown, model.mines)
            self.assertEqual(searched_count(*board), plain_count(*board), calls)

    def test_games(self):
        dice = random.Random(33)
        games, long_edges = 0, 0
        while games < 12:
            model = Model(searched_count)
            width, height, mines = dice.choice([(16, 16, 40), (12, 9, 14), (9, 16, 20), (16, 16, 100)])
            calls = [lines.begin(), lines.board(width, height, mines)]
            calls.append(lines.deal(dice.randrange(2 ** 64), dice.randrange(width), dice.randrange(height)))
            self.follow(model, calls)
            for _ in range(dice.randrange(1, 4)):
                near = [cell for cell in model.edge() if cell not in model.mined]
                if near and not model.over:
                    calls.append(lines.open_(*dice.choice(near)))
                    self.follow(model, calls[-1:])
            edge = len(model.edge())
            if edge > 24:
                long_edges += 1
                self.assertEqual(lines.last_told(*calls, lines.layouts()), [-3])
            elif edge > 6:
                games += 1
                self.check(model, width, height, calls)
        self.assertGreater(long_edges, 3)

    def test_a_hard_edge(self):
        # 24 cells on the edge, and almost all of the numbers lie in reach of one another.
        picture = ["." * 16] * 12 + ["....4...........", "3.4...3.........", "..4.312.........", "2...2.1........."]
        for mines in [20, 100]:
            calls = lines.set_up(mines, *picture)
            model = Model(searched_count)
            self.follow(model, calls)
            self.assertEqual(len(model.edge()), 24)
            self.check(model, 16, 16, calls)

    def test_a_fraction_that_stays_long(self):
        picture = ["." * 16] * 3 + [".......3.3......", ".......3...4....", ".........4......"] + ["." * 16] * 10
        calls = lines.set_up(117, *picture)
        model = Model(searched_count)
        self.follow(model, calls)
        self.check(model, 16, 16, calls)
        self.assertGreater(lines.chance_at(0, 0, *calls)[0], 2 ** 56)


if __name__ == "__main__":
    unittest.main()
