"""Promise 4: open, and what it is to open cells."""

import sys
import unittest

from tests.lines import begin, board, chord, deal, flag, last, mines_of, open_, replies, seen, viewed

# The numbers of this game's cells, with its mines:
#   1 1 0 0 0 0
#   * 2 0 0 0 0
#   * 2 0 0 0 0
#   1 2 1 1 0 0
#   0 1 * 1 0 0
GAME = [begin(), board(6, 5, 3), deal(7, 0, 0)]
FENCE = [flag(3, 0), flag(3, 1), flag(3, 2)]


class Game(unittest.TestCase):
    def test_it_is_as_drawn(self):
        self.assertEqual(mines_of(6, 5, 3, 7, 0, 0), ["......", "*.....", "*.....", "......", "..*..."])
        self.assertEqual(seen(6, 5, *GAME), ["#.....", "......", "......", "......", "......"])


class Answer(unittest.TestCase):
    def test_a_shown_cell(self):
        self.assertEqual(replies(*GAME, open_(0, 0), open_(1, 0), open_(1, 0))[3:], [0, 1, 0])

    def test_a_flagged_cell(self):
        calls = [*GAME, flag(0, 1), open_(0, 1), flag(5, 0), open_(5, 0)]
        self.assertEqual(replies(*calls)[3:], [1, 0, 1, 0])
        self.assertEqual(seen(6, 5, *calls), ["#....F", "F.....", "......", "......", "......"])

    def test_a_cell_that_was_flagged(self):
        self.assertEqual(replies(*GAME, flag(0, 1), flag(0, 1), open_(0, 1))[3:], [1, 0, 2])

    def test_a_cell_that_touches_mines_shows_alone(self):
        calls = [*GAME, open_(1, 1)]
        self.assertEqual(last(*calls), 1)
        self.assertEqual(seen(6, 5, *calls), ["#.....", ".#....", "......", "......", "......"])

    def test_a_mined_cell(self):
        for mine in [(0, 1), (0, 2), (2, 4)]:
            with self.subTest(mine):
                self.assertEqual(last(*GAME, open_(*mine)), 2)

    def test_the_last_cell_that_is_not_mined(self):
        calls = [*GAME, open_(5, 0), open_(0, 4)]
        self.assertEqual(replies(*calls)[3:], [1, 3])

    def test_it_is_not_won_while_a_flagged_cell_is_not_mined(self):
        calls = [*GAME, open_(5, 0), flag(0, 3), open_(0, 4), flag(0, 3), open_(0, 3)]
        self.assertEqual(replies(*calls)[3:], [1, 1, 1, 0, 3])

    def test_flags_alone_do_not_win(self):
        calls = [*GAME, flag(0, 1), flag(0, 2), flag(2, 4), open_(1, 0)]
        self.assertEqual(replies(*calls)[3:], [1, 1, 1, 1])


class Spread(unittest.TestCase):
    def test_over_cells_with_0_and_the_ones_around_them(self):
        calls = [*GAME, open_(5, 0)]
        self.assertEqual(last(*calls), 1)
        self.assertEqual(seen(6, 5, *calls), ["######", ".#####", ".#####", ".#####", "...###"])

    def test_the_same_from_another_cell_with_0(self):
        for cell in [(2, 0), (2, 2), (3, 1), (4, 4), (5, 4)]:
            with self.subTest(cell):
                calls = [*GAME, open_(*cell)]
                self.assertEqual(seen(6, 5, *calls), ["######", ".#####", ".#####", ".#####", "...###"])

    def test_in_a_corner(self):
        calls = [*GAME, open_(0, 4)]
        self.assertEqual(last(*calls), 1)
        self.assertEqual(seen(6, 5, *calls), ["#.....", "......", "......", "##....", "##...."])

    def test_it_stops_at_flagged_cells(self):
        calls = [*GAME, *FENCE, open_(5, 0)]
        self.assertEqual(last(*calls), 1)
        self.assertEqual(seen(6, 5, *calls), ["#..F##", "...F##", "...F##", "...###", "...###"])

    def test_a_flag_on_the_way_is_gone_around(self):
        calls = [*GAME, flag(3, 1), flag(1, 2), open_(5, 0)]
        self.assertEqual(last(*calls), 1)
        self.assertEqual(seen(6, 5, *calls), ["######", ".##F##", ".F####", ".#####", "...###"])

    def test_it_goes_on_behind_a_flag_that_is_taken_away(self):
        calls = [*GAME, *FENCE, open_(5, 0), flag(3, 2), open_(3, 2)]
        self.assertEqual(last(*calls), 1)
        self.assertEqual(seen(6, 5, *calls), ["###F##", ".##F##", ".#####", ".#####", "...###"])

    def test_what_is_shown(self):
        self.assertEqual(viewed(6, *GAME, open_(5, 0)), ["110000", ".20000", ".20000", ".21100", "...100"])
        self.assertEqual(viewed(6, *GAME, *FENCE, open_(5, 0)), ["1..F00", "...F00", "...F00", "...100", "...100"])

    def test_eight_mines_around_a_cell(self):
        # All but the middle of 3 by 3 are mined.
        calls = [begin(), board(3, 3, 8), deal(0, 1, 1)]
        self.assertEqual(last(*calls), 3)
        self.assertEqual(viewed(3, *calls), ["...", ".8.", "..."])

    def test_the_largest_board_in_few_nested_calls(self):
        limit = sys.getrecursionlimit()
        calls = [begin(), board(16, 16, 1), deal(0, 0, 0)]
        frame, depth = sys._getframe(), 0
        while frame is not None:
            frame, depth = frame.f_back, depth + 1
        sys.setrecursionlimit(depth + 40)
        try:
            answer = last(*calls)
        finally:
            sys.setrecursionlimit(limit)
        self.assertEqual(answer, 3)


class NotInPlay(unittest.TestCase):
    def test_not_dealt(self):
        for cell in [(0, 0), (5, 4)]:
            self.assertEqual(replies(begin(), board(6, 5, 3), open_(*cell), deal(7, 0, 0))[2:], [-2, 1])

    def test_lost(self):
        calls = [*GAME, open_(2, 4), open_(2, 4), open_(0, 0), open_(5, 0), open_(0, 1)]
        self.assertEqual(replies(*calls)[3:], [2, -2, -2, -2, -2])

    def test_won(self):
        calls = [*GAME, open_(5, 0), open_(0, 4), open_(2, 4), open_(0, 0)]
        self.assertEqual(replies(*calls)[3:], [1, 3, -2, -2])

    def test_won_by_the_deal(self):
        self.assertEqual(replies(begin(), board(2, 2, 3), deal(0, 0, 0), open_(0, 0), open_(1, 1))[2:], [3, -2, -2])

    def test_flag_and_chord_too(self):
        undealt = [begin(), board(6, 5, 3)]
        lost = [*GAME, open_(2, 4)]
        won = [*GAME, open_(5, 0), open_(0, 4)]
        for start in [undealt, lost, won]:
            self.assertEqual(replies(*start, flag(0, 1), flag(0, 0), chord(0, 0), chord(0, 1))[-4:], [-2] * 4)

    def test_nothing_is_shown_where_it_is_lost(self):
        calls = [*GAME, open_(0, 1)]
        self.assertEqual(last(*calls), 2)
        self.assertEqual(viewed(6, *calls), ["1.....", "*.....", "*.....", "......", "..*..."])


if __name__ == "__main__":
    unittest.main()
