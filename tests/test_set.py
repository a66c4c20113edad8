"""Promise 7: set, and what it means for deal."""

import unittest

from tests.lines import (HIGHEST, LOWEST, begin, board, chord, deal, flag, last, layouts, open_, replies, set_, told,
                         view, viewed)

UNDEALT = [begin(), board(4, 3, 2)]

# Mines at (0, 1), (0, 2) and (2, 4), as drawn in test_open.py; (0, 0) is shown.
GAME = [begin(), board(6, 5, 3), deal(7, 0, 0)]
LOST = [*GAME, open_(2, 4)]
WON = [*GAME, open_(5, 0), open_(0, 4)]

OUT_OF_RANGE = [-1, 10, 11, LOWEST, HIGHEST]


class Set(unittest.TestCase):
    def test_each_number_is_shown(self):
        for number in range(9):
            with self.subTest(number):
                calls = [*UNDEALT, set_(2, 1, number)]
                self.assertEqual(told(*calls)[-1], [0])
                self.assertEqual(viewed(4, *calls), ["....", f"..{number}.", "...."])

    def test_nine_is_dark(self):
        for number in range(9):
            with self.subTest(number):
                calls = [*UNDEALT, set_(2, 1, number), set_(2, 1, 9)]
                self.assertEqual(replies(*calls)[2:], [0, 0])
                self.assertEqual(viewed(4, *calls), ["....", "....", "...."])

    def test_nine_of_a_dark_cell(self):
        self.assertEqual(last(*UNDEALT, set_(2, 1, 9)), 0)
        self.assertEqual(viewed(4, *UNDEALT, set_(2, 1, 9)), ["....", "....", "...."])

    def test_set_again_to_another(self):
        calls = [*UNDEALT, set_(3, 2, 8), set_(3, 2, 0), set_(3, 2, 5), set_(3, 2, 5)]
        self.assertEqual(replies(*calls)[2:], [0, 0, 0, 0])
        self.assertEqual(viewed(4, *calls), ["....", "....", "...5"])

    def test_every_cell_is_its_own(self):
        sets = [set_(x, y, (3 * y + x) % 9) for y in range(3) for x in range(4)]
        self.assertEqual(viewed(4, *UNDEALT, *sets), ["0123", "3456", "6780"])
        self.assertEqual(viewed(4, *UNDEALT, *sets, set_(1, 2, 9), set_(3, 0, 9)), ["012.", "3456", "6.80"])

    def test_nothing_spreads_from_a_0(self):
        self.assertEqual(viewed(4, *UNDEALT, set_(1, 1, 0)), ["....", ".0..", "...."])

    def test_x_and_y_are_not_mixed_up(self):
        self.assertEqual(viewed(4, *UNDEALT, set_(3, 0, 1), set_(0, 2, 2)), ["...1", "....", "2..."])

    def test_a_new_board_has_none_of_them(self):
        self.assertEqual(viewed(4, *UNDEALT, set_(3, 0, 1), board(4, 3, 2)), ["....", "....", "...."])


class Refusal(unittest.TestCase):
    def test_a_number_out_of_range(self):
        for number in OUT_OF_RANGE:
            with self.subTest(number):
                calls = [*UNDEALT, set_(2, 1, 4), set_(2, 1, number), set_(0, 0, number)]
                self.assertEqual(told(*calls)[-2:], [[-1], [-1]])
                self.assertEqual(viewed(4, *calls), ["....", "..4.", "...."])
                self.assertEqual(last(*UNDEALT, set_(0, 0, number), deal(0, 0, 0)), 1)

    def test_a_number_out_of_range_of_no_such_cell(self):
        self.assertEqual(replies(*UNDEALT, set_(4, 0, 10), set_(0, 3, -1), set_(-1, 0, 1))[2:], [-1, -1, -1])

    def test_a_game_that_is_dealt(self):
        for start in [GAME, LOST, WON]:
            picture = viewed(6, *start)
            for number in [*range(10), *OUT_OF_RANGE]:
                for x, y in [(0, 0), (5, 0), (0, 1), (2, 4)]:
                    with self.subTest(start=start, number=number, x=x, y=y):
                        self.assertEqual(told(*start, set_(x, y, number))[-1], [-1])
                        self.assertEqual(viewed(6, *start, set_(x, y, number)), picture)

    def test_the_game_goes_on_behind_it(self):
        self.assertEqual(replies(*GAME, set_(1, 0, 3), open_(1, 0), set_(0, 1, 0), open_(0, 1))[3:], [-1, 1, -1, 2])

    def test_a_new_board_behind_a_game_may_be_set(self):
        for start in [GAME, LOST, WON]:
            calls = [*start, board(3, 1, 1), set_(1, 0, 1)]
            self.assertEqual(last(*calls), 0)
            self.assertEqual(viewed(3, *calls), [".1."])


class Deal(unittest.TestCase):
    def test_refused_where_a_cell_has_been_set(self):
        for number in range(9):
            for x, y in [(0, 0), (3, 2), (1, 1)]:
                with self.subTest(number=number, x=x, y=y):
                    calls = [*UNDEALT, set_(x, y, number), deal(0, 0, 0), open_(0, 0), flag(3, 0), chord(x, y)]
                    self.assertEqual(replies(*calls)[3:], [-1, -2, -2, -2])
                    self.assertEqual(viewed(4, *calls), viewed(4, *calls[:3]))

    def test_set_again_behind_the_refusal(self):
        calls = [*UNDEALT, set_(0, 0, 1), deal(0, 0, 0), set_(0, 0, 2), set_(1, 0, 3)]
        self.assertEqual(replies(*calls)[3:], [-1, 0, 0])
        self.assertEqual(viewed(4, *calls), ["23..", "....", "...."])

    def test_once_it_has_been_made_dark(self):
        # The same game as without any set.
        calls = [begin(), board(6, 5, 3), set_(2, 2, 4), set_(5, 4, 0), deal(7, 0, 0), set_(2, 2, 9), deal(7, 0, 0),
                 set_(5, 4, 9), deal(7, 0, 0)]
        self.assertEqual(replies(*calls)[2:], [0, 0, -1, 0, -1, 0, 1])
        rest = [open_(5, 0), open_(0, 4)]
        self.assertEqual(replies(*calls, *rest)[-2:], replies(*GAME, *rest)[-2:])
        self.assertEqual(viewed(6, *calls, *rest), viewed(6, *WON))

    def test_weighing_changes_nothing_of_that(self):
        calls = [*UNDEALT, set_(1, 1, 1), layouts(), view(12), deal(0, 0, 0), set_(1, 1, 9), layouts(), deal(0, 0, 0)]
        self.assertEqual(replies(*calls)[2:], [0, 0, 12, -1, 0, 0, 1])


if __name__ == "__main__":
    unittest.main()
