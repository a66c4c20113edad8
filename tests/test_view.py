"""Promise 8: view."""

import unittest

from tests.lines import (HIGHEST, LOWEST, begin, board, chord, deal, flag, last_told, open_, set_, set_up, told, view,
                         viewed)

# The numbers of this game's cells, with its mines; it is dealt at (0, 0):
#   1 1 0 0 0 0
#   * 2 0 0 0 0
#   * 2 0 0 0 0
#   1 2 1 1 0 0
#   0 1 * 1 0 0
GAME = [begin(), board(6, 5, 3), deal(7, 0, 0)]


class Seen(unittest.TestCase):
    def test_number_by_number(self):
        calls = [begin(), board(3, 2, 1), set_(1, 0, 8), set_(2, 0, 0), set_(0, 1, 3)]
        self.assertEqual(last_told(*calls, view(6)), [6, 9, 8, 0, 3, 9, 9])

    def test_a_new_board(self):
        for width, height in [(1, 2), (2, 1), (5, 3), (16, 16)]:
            calls = [begin(), board(width, height, 1), view(256)]
            self.assertEqual(last_told(*calls), [width * height] + [9] * (width * height))

    def test_a_game_that_goes_on(self):
        self.assertEqual(viewed(6, *GAME), ["1.....", "......", "......", "......", "......"])
        self.assertEqual(viewed(6, *GAME, open_(5, 0)), ["110000", ".20000", ".20000", ".21100", "...100"])

    def test_flagged_cells(self):
        calls = [*GAME, flag(0, 1), flag(5, 4), flag(1, 0), flag(1, 0)]
        self.assertEqual(viewed(6, *calls), ["1.....", "F.....", "......", "......", ".....F"])
        self.assertEqual(last_told(*calls, view(30)), [30, 1] + [9] * 5 + [10] + [9] * 22 + [10])

    def test_flags_are_no_longer_seen_behind_a_new_deal(self):
        calls = [*GAME, flag(0, 1), board(6, 5, 3), deal(7, 0, 0)]
        self.assertEqual(viewed(6, *calls), ["1.....", "......", "......", "......", "......"])

    def test_it_changes_nothing(self):
        calls = [*GAME, view(30), flag(0, 1), view(30), view(29), chord(0, 0), view(30)]
        with_views = told(*calls)
        without = told(*[call for call in calls if call[0] != 7])
        self.assertEqual([answer for call, answer in zip(calls, with_views) if call[0] != 7], without)


class Lost(unittest.TestCase):
    def test_mined_cells(self):
        calls = [*GAME, open_(0, 2)]
        self.assertEqual(viewed(6, *calls), ["1.....", "*.....", "*.....", "......", "..*..."])
        numbers = [1] + [9] * 5 + [11] + [9] * 5 + [11] + [9] * 13 + [11] + [9] * 3
        self.assertEqual(last_told(*calls, view(30)), [30] + numbers)

    def test_flagged_ones_too(self):
        calls = [*GAME, flag(0, 1), flag(2, 4), flag(3, 3), open_(0, 2)]
        self.assertEqual(viewed(6, *calls), ["1.....", "*.....", "*.....", "...F..", "..*..."])

    def test_by_a_chord_nothing_is_shown(self):
        calls = [*GAME, flag(1, 0), chord(0, 0)]
        self.assertEqual(viewed(6, *calls), ["1F....", "*.....", "*.....", "......", "..*..."])

    def test_no_mine_is_seen_on_a_new_board_behind_it(self):
        calls = [*GAME, open_(0, 2), board(6, 5, 3)]
        self.assertEqual(viewed(6, *calls), ["......"] * 5)
        self.assertEqual(viewed(6, *calls, deal(7, 0, 0)), viewed(6, *GAME))


class Won(unittest.TestCase):
    def test_mined_cells_stay_dark(self):
        calls = [*GAME, open_(5, 0), open_(0, 4)]
        self.assertEqual(viewed(6, *calls), ["110000", ".20000", ".20000", "121100", "01.100"])

    def test_flagged_ones_stay_flagged(self):
        calls = [*GAME, flag(0, 1), open_(5, 0), flag(2, 4), open_(0, 4)]
        self.assertEqual(viewed(6, *calls), ["110000", "F20000", ".20000", "121100", "01F100"])

    def test_all_others_mined(self):
        self.assertEqual(viewed(3, begin(), board(3, 3, 8), deal(0, 1, 1)), ["...", ".8.", "..."])


class Most(unittest.TestCase):
    def test_just_as_many_as_cells_or_more(self):
        for width, height in [(1, 2), (2, 1), (6, 5), (16, 16)]:
            cells = width * height
            for most in [cells, cells + 1, 257, 65535, 65536]:
                with self.subTest(width=width, height=height, most=most):
                    calls = [begin(), board(width, height, 1), view(most)]
                    self.assertEqual(last_told(*calls), [cells] + [9] * cells)

    def test_fewer_than_cells(self):
        for width, height in [(1, 2), (2, 1), (6, 5), (16, 16)]:
            cells = width * height
            for most in [cells - 1, 1, 0, -1, -cells, LOWEST]:
                with self.subTest(width=width, height=height, most=most):
                    self.assertEqual(last_told(begin(), board(width, height, 1), view(most)), [-2])

    def test_out_of_range_counts_as_0(self):
        for most in [65537, 65538, 131072, HIGHEST, HIGHEST - 1]:
            for start in [set_up(1, ".1"), set_up(1, "." * 16), GAME, [*GAME, open_(0, 1)]]:
                with self.subTest(start=start, most=most):
                    self.assertEqual(last_told(*start, view(most)), [-2])

    def test_no_board_comes_first(self):
        for most in [LOWEST, 0, 1, 65536, 65537, HIGHEST]:
            self.assertEqual(last_told(begin(), view(most)), [-4])


if __name__ == "__main__":
    unittest.main()
