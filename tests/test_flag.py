"""Promise 5: flag."""

import unittest

from tests.lines import begin, board, deal, flag, last, open_, replies, seen, set_, viewed

# Drawn in test_open.py: mines at (0, 1), (0, 2) and (2, 4), and (0, 0) is shown.
GAME = [begin(), board(6, 5, 3), deal(7, 0, 0)]


class Flag(unittest.TestCase):
    def test_set_and_taken_away(self):
        self.assertEqual(replies(*GAME, flag(0, 1), flag(0, 1), flag(0, 1), flag(0, 1))[3:], [1, 0, 1, 0])

    def test_mined_or_not(self):
        self.assertEqual(replies(*GAME, flag(0, 2), flag(5, 4), flag(5, 4), flag(0, 2))[3:], [1, 1, 0, 0])

    def test_each_cell_has_its_own(self):
        calls = [*GAME, flag(1, 0), flag(0, 1), flag(5, 4), flag(3, 2), flag(0, 1)]
        self.assertEqual(replies(*calls)[3:], [1, 1, 1, 1, 0])
        self.assertEqual(seen(6, 5, *calls), ["#F....", "......", "...F..", "......", ".....F"])
        self.assertEqual(viewed(6, *calls), ["1F....", "......", "...F..", "......", ".....F"])

    def test_more_flags_than_mines(self):
        flags = [flag(x, 3) for x in range(6)]
        self.assertEqual(replies(*GAME, *flags)[3:], [1] * 6)

    def test_every_dark_cell_flagged_is_not_over(self):
        flags = [flag(x, y) for y in range(5) for x in range(6) if (x, y) != (0, 0)]
        self.assertEqual(replies(*GAME, *flags, *flags, open_(1, 1))[3:], [1] * 29 + [0] * 29 + [1])


class Refusal(unittest.TestCase):
    def test_a_shown_cell(self):
        self.assertEqual(replies(*GAME, flag(0, 0), open_(5, 0), flag(5, 0), flag(1, 3))[3:], [-1, 1, -1, -1])

    def test_a_shown_cell_stays_as_it_was(self):
        calls = [*GAME, flag(0, 0), flag(0, 0), flag(0, 0)]
        self.assertEqual(replies(*calls)[3:], [-1, -1, -1])
        self.assertEqual(seen(6, 5, *calls), ["#.....", "......", "......", "......", "......"])

    def test_not_dealt(self):
        self.assertEqual(replies(begin(), board(6, 5, 3), flag(0, 1), deal(7, 0, 0), flag(0, 1))[2:], [-2, 1, 1])

    def test_not_dealt_comes_ahead_of_shown(self):
        calls = [begin(), board(6, 5, 3), set_(1, 1, 2), flag(1, 1), flag(0, 0)]
        self.assertEqual(replies(*calls)[2:], [0, -2, -2])
        self.assertEqual(viewed(6, *calls), ["......", ".2....", "......", "......", "......"])

    def test_over_comes_ahead_of_shown(self):
        lost = [*GAME, open_(0, 1)]
        won = [*GAME, open_(5, 0), open_(0, 4)]
        for start, answer in [(lost, 2), (won, 3)]:
            self.assertEqual(last(*start), answer)
            self.assertEqual(replies(*start, flag(0, 0), flag(0, 2))[-2:], [-2, -2])


if __name__ == "__main__":
    unittest.main()
