"""Promise 1: begin, and what is refused of all other calls."""

import unittest

from tests.lines import (HIGHEST, LOWEST, begin, best, board, chance, chord, deal, flag, last, layouts, open_,
                         replies, set_, sure, view)

NEED_A_BOARD = {
    "deal": deal(0, 0, 0), "open": open_(0, 0), "flag": flag(0, 0), "chord": chord(0, 0), "set": set_(0, 0, 1),
    "view": view(256), "layouts": layouts(), "chance": chance(0, 0), "sure": sure(), "best": best(),
}

NAME_A_CELL = {
    "deal": lambda x, y: deal(0, x, y), "open": open_, "flag": flag, "chord": chord,
    "set": lambda x, y: set_(x, y, 1), "chance": chance,
}

# Of a board that is 4 wide and 2 high.
NO_SUCH_CELLS = [
    (-1, 0), (4, 0), (0, -1), (0, 2), (-1, -1), (4, 2), (-1, 1), (4, 1), (3, -1), (3, 2), (1, 3), (2, 2),
    (LOWEST, 0), (HIGHEST, 0), (0, LOWEST), (0, HIGHEST), (LOWEST, LOWEST), (HIGHEST, HIGHEST),
    (-4, 1), (8, -1), (LOWEST, HIGHEST), (HIGHEST, LOWEST),
]


class Begin(unittest.TestCase):
    def test_it_answers_0(self):
        self.assertEqual(replies(begin()), [0])

    def test_it_may_come_again(self):
        self.assertEqual(replies(begin(), begin(), board(2, 2, 1), begin()), [0, 0, 0, 0])

    def test_the_others_are_refused_where_there_is_no_board(self):
        for name, call in NEED_A_BOARD.items():
            with self.subTest(name):
                self.assertEqual(replies(begin(), call), [0, -4])

    def test_the_others_are_refused_behind_a_second_begin(self):
        for name, call in NEED_A_BOARD.items():
            with self.subTest(name):
                calls = [begin(), board(3, 3, 2), deal(5, 1, 1), begin(), call]
                self.assertEqual(last(*calls), -4)

    def test_a_refused_board_is_no_board(self):
        for name, call in NEED_A_BOARD.items():
            with self.subTest(name):
                self.assertEqual(replies(begin(), board(17, 3, 1), call), [0, -1, -4])

    def test_no_board_comes_ahead_of_no_such_cell(self):
        for name, call in NAME_A_CELL.items():
            for x, y in NO_SUCH_CELLS:
                with self.subTest(name, x=x, y=y):
                    self.assertEqual(last(begin(), call(x, y)), -4)

    def test_a_board_may_be_laid_behind_a_second_begin(self):
        calls = [begin(), board(3, 1, 1), deal(0, 1, 0), begin(), board(3, 1, 1), deal(0, 1, 0)]
        self.assertEqual(replies(*calls), [0, 0, 1, 0, 0, 1])


class NoSuchCell(unittest.TestCase):
    def check(self, *start):
        for name, call in NAME_A_CELL.items():
            for x, y in NO_SUCH_CELLS:
                with self.subTest(name, x=x, y=y):
                    self.assertEqual(last(*start, call(x, y)), -1)

    def test_of_a_board_that_is_not_dealt(self):
        self.check(begin(), board(4, 2, 2))

    def test_of_a_game_that_goes_on(self):
        start = [begin(), board(4, 2, 3), deal(1, 3, 0)]
        self.assertEqual(last(*start), 1)
        self.check(*start)

    def test_of_a_game_that_is_over(self):
        start = [begin(), board(4, 2, 7), deal(0, 0, 0)]
        self.assertEqual(last(*start), 3)
        self.check(*start)

    def test_it_changes_nothing(self):
        calls = [begin(), board(4, 2, 3), deal(1, 4, 0), deal(1, 3, 0), flag(2, 0)]
        wrong = [flag(4, 0), open_(0, 2), chord(3, -1), flag(-1, 0), deal(1, 0, 9)]
        self.assertEqual(replies(*calls, *wrong, flag(2, 0), chord(3, 0)), [0, 0, -1, 1, 1] + [-1] * 5 + [0, 0])

    def test_the_last_cells_are_there(self):
        start = [begin(), board(4, 2, 7)]
        for x, y in [(0, 0), (3, 0), (0, 1), (3, 1)]:
            self.assertEqual(last(*start, deal(0, x, y)), 3)


if __name__ == "__main__":
    unittest.main()
