"""Promise 2: board."""

import unittest

from darkboard.board import Board, touching
from tests.lines import HIGHEST, LOWEST, begin, board, chord, deal, flag, last, open_, replies, seen


class Ranges(unittest.TestCase):
    def test_the_ends_of_the_ranges(self):
        sizes = [(1, 2), (2, 1), (1, 16), (16, 1), (16, 16), (2, 2), (7, 3)]
        for width, height in sizes:
            for mines in [1, width * height - 1]:
                with self.subTest(width=width, height=height, mines=mines):
                    self.assertEqual(replies(begin(), board(width, height, mines)), [0, 0])

    def test_one_by_one_has_no_number_of_mines(self):
        for mines in [LOWEST, -1, 0, 1, 2, HIGHEST]:
            with self.subTest(mines=mines):
                self.assertEqual(last(begin(), board(1, 1, mines)), -1)

    def test_width_out_of_range(self):
        for width in [LOWEST, -16, -1, 0, 17, HIGHEST]:
            with self.subTest(width=width):
                self.assertEqual(last(begin(), board(width, 5, 1)), -1)

    def test_height_out_of_range(self):
        for height in [LOWEST, -16, -1, 0, 17, HIGHEST]:
            with self.subTest(height=height):
                self.assertEqual(last(begin(), board(5, height, 1)), -1)

    def test_mines_out_of_range(self):
        for width, height in [(5, 4), (16, 16), (1, 16), (16, 1)]:
            cells = width * height
            for mines in [LOWEST, -1, 0, cells, cells + 1, HIGHEST]:
                with self.subTest(width=width, height=height, mines=mines):
                    self.assertEqual(last(begin(), board(width, height, mines)), -1)

    def test_two_wrong_sides_do_not_make_up_for_one_another(self):
        for width, height in [(-2, -2), (LOWEST, LOWEST), (HIGHEST, HIGHEST), (-1, 17), (0, 0)]:
            with self.subTest(width=width, height=height):
                self.assertEqual(last(begin(), board(width, height, 1)), -1)


class WhatIsLaid(unittest.TestCase):
    def test_as_many_cells_as_were_asked_for(self):
        for width, height in [(1, 2), (1, 16), (16, 1), (16, 16), (3, 7)]:
            start = [begin(), board(width, height, width * height - 1)]
            with self.subTest(width=width, height=height):
                self.assertEqual(last(*start, deal(3, width - 1, height - 1)), 3)
                self.assertEqual(last(*start, deal(3, width, height - 1)), -1)
                self.assertEqual(last(*start, deal(3, width - 1, height)), -1)

    def test_it_is_not_dealt(self):
        self.assertEqual(replies(begin(), board(3, 2, 1), open_(0, 0), flag(0, 0), chord(0, 0))[2:], [-2, -2, -2])


class Touch(unittest.TestCase):
    def test_on_a_board_4_wide_and_3_high(self):
        laid = Board(4, 3, 1)
        self.assertEqual(touching(laid, 0), [1, 4, 5])
        self.assertEqual(touching(laid, 3), [2, 6, 7])
        self.assertEqual(touching(laid, 4), [0, 1, 5, 8, 9])
        self.assertEqual(touching(laid, 6), [1, 2, 3, 5, 7, 9, 10, 11])
        self.assertEqual(touching(laid, 11), [6, 7, 10])

    def test_on_boards_of_one_row_and_one_column(self):
        for width, height in [(1, 3), (3, 1)]:
            laid = Board(width, height, 1)
            self.assertEqual([touching(laid, cell) for cell in range(3)], [[1], [0, 2], [1]])


REFUSED = [board(0, 3, 1), board(3, 17, 1), board(3, 3, 0), board(3, 3, 9), board(1, 1, 1),
           board(LOWEST, 3, 1), board(3, HIGHEST, 1), board(3, 3, HIGHEST), board(3, 3, LOWEST)]


class Refusal(unittest.TestCase):
    def test_it_leaves_the_game_as_it_was(self):
        # Mines at 0, 1 and 10 in order; the named cell shows 1.
        start = [begin(), board(5, 3, 3), deal(0, 2, 1), flag(1, 0), open_(4, 2)]
        self.assertEqual(replies(*start)[2:], [1, 1, 1])
        picture = seen(5, 3, *start)
        for refused in REFUSED:
            with self.subTest(refused):
                self.assertEqual(replies(*start, refused, deal(1, 0, 0))[-2:], [-1, -1])
                self.assertEqual(seen(5, 3, *start, refused), picture)
                self.assertEqual(last(*start, refused, open_(0, 0)), 2)

    def test_it_leaves_a_board_that_is_not_dealt(self):
        for refused in REFUSED:
            with self.subTest(refused):
                calls = [begin(), board(5, 3, 14), refused, open_(4, 2), deal(0, 4, 2)]
                self.assertEqual(replies(*calls)[2:], [-1, -2, 3])

    def test_it_leaves_a_game_that_is_over(self):
        for refused in REFUSED:
            with self.subTest(refused):
                calls = [begin(), board(5, 3, 3), deal(0, 2, 1), open_(0, 0), refused, open_(1, 0), deal(0, 2, 1)]
                self.assertEqual(replies(*calls)[3:], [2, -1, -2, -1])


class Anew(unittest.TestCase):
    def test_in_the_midst_of_a_game(self):
        start = [begin(), board(5, 3, 3), deal(0, 2, 1), flag(1, 0), flag(4, 2), open_(4, 0), board(5, 3, 3)]
        self.assertEqual(replies(*start)[2:], [1, 1, 1, 1, 0])
        self.assertEqual(replies(*start, open_(0, 0), flag(0, 0), chord(2, 1))[-3:], [-2, -2, -2])
        self.assertEqual(seen(5, 3, *start, deal(0, 2, 1)), [".....", "..#..", "....."])

    def test_behind_a_lost_and_a_won_game(self):
        lost = [begin(), board(5, 3, 3), deal(0, 2, 1), open_(0, 0)]
        won = [begin(), board(5, 3, 14), deal(0, 2, 1)]
        for over, answer in [(lost, 2), (won, 3)]:
            self.assertEqual(last(*over), answer)
            calls = [*over, board(5, 3, 3), open_(1, 0), deal(0, 2, 1), flag(1, 0)]
            self.assertEqual(replies(*calls)[-4:], [0, -2, 1, 1])

    def test_no_mine_stays_from_the_game_before(self):
        # The first deal mines 0, 1 and 10; the second one 0, 3, 1 and 11.
        calls = [begin(), board(5, 3, 3), deal(0, 2, 1), board(5, 3, 4), deal(18446744073709551615, 4, 2)]
        self.assertEqual(last(*calls, open_(0, 2)), 1)
        self.assertEqual(seen(5, 3, *calls), [".....", "..###", "..###"])

    def test_of_another_size(self):
        calls = [begin(), board(16, 1, 1), board(1, 16, 15), deal(0, 1, 0), deal(0, 0, 15)]
        self.assertEqual(replies(*calls), [0, 0, 0, -1, 3])


if __name__ == "__main__":
    unittest.main()
