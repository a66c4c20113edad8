"""Promise 6: chord."""

import unittest

from tests.lines import begin, board, chord, deal, flag, last, open_, replies, seen, viewed

# The numbers of this game's cells, with its mines; it is dealt at (0, 0):
#   1 1 0 0 0 0
#   * 2 0 0 0 0
#   * 2 0 0 0 0
#   1 2 1 1 0 0
#   0 1 * 1 0 0
GAME = [begin(), board(6, 5, 3), deal(7, 0, 0)]

# Mined at (2, 0), dealt in the middle.
SHORT_GAME = [begin(), board(3, 1, 1), deal(0, 1, 0)]


class Opens(unittest.TestCase):
    def test_those_that_touch_it(self):
        calls = [*GAME, flag(0, 1), chord(0, 0)]
        self.assertEqual(last(*calls), 1)
        self.assertEqual(seen(6, 5, *calls), ["##....", "F#....", "......", "......", "......"])

    def test_it_spreads(self):
        calls = [*GAME, open_(1, 1), flag(0, 1), flag(0, 2), chord(1, 1)]
        self.assertEqual(last(*calls), 1)
        self.assertEqual(viewed(6, *calls), ["110000", "F20000", "F20000", ".21100", "...100"])

    def test_flags_further_away_do_not_count(self):
        calls = [*GAME, flag(0, 1), flag(0, 2), flag(2, 0), flag(2, 1), chord(0, 0)]
        self.assertEqual(last(*calls), 1)
        self.assertEqual(seen(6, 5, *calls), ["##F...", "F#F...", "F.....", "......", "......"])

    def test_a_cell_with_0_and_no_flag(self):
        calls = [*GAME, flag(3, 0), flag(3, 1), flag(3, 2), open_(5, 0), flag(3, 0), chord(4, 0), flag(3, 1)]
        self.assertEqual(replies(*calls, chord(4, 0))[6:], [1, 0, 0, 0, 1])
        self.assertEqual(seen(6, 5, *calls, chord(4, 0)), ["######", ".#####", ".##F##", ".#####", "...###"])

    def test_at_the_border(self):
        calls = [*GAME, open_(0, 3), flag(0, 2), chord(0, 3)]
        self.assertEqual(replies(*calls)[3:], [1, 1, 1])
        self.assertEqual(seen(6, 5, *calls), ["#.....", "......", "F#....", "##....", "##...."])


class Loses(unittest.TestCase):
    def test_a_mine_that_is_not_flagged(self):
        calls = [*GAME, flag(1, 0), chord(0, 0), open_(5, 0), chord(0, 0), flag(1, 0)]
        self.assertEqual(replies(*calls)[3:], [1, 2, -2, -2, -2])

    def test_one_flag_of_two_is_wrong(self):
        # (1, 2) touches the mines at (0, 1) and (0, 2); none lies at (1, 3).
        self.assertEqual(replies(*GAME, open_(1, 2), flag(0, 2), flag(1, 3), chord(1, 2))[3:], [1, 1, 1, 2])

    def test_nothing_is_shown(self):
        calls = [*GAME, flag(1, 0), chord(0, 0)]
        self.assertEqual(last(*calls), 2)
        self.assertEqual(viewed(6, *calls), ["1F....", "*.....", "*.....", "......", "..*..."])


class Wins(unittest.TestCase):
    def test_the_last_that_is_not_mined(self):
        self.assertEqual(replies(*SHORT_GAME, flag(2, 0), chord(1, 0), chord(1, 0))[2:], [1, 1, 3, -2])

    def test_by_a_spread(self):
        # (0, 3) and (1, 4) touch (1, 3), and (0, 4) shows 0.
        calls = [*GAME, open_(5, 0), flag(0, 2), flag(2, 4), chord(1, 3)]
        self.assertEqual(replies(*calls)[3:], [1, 1, 1, 3])


class Nothing(unittest.TestCase):
    def test_fewer_flags_than_it_shows(self):
        self.assertEqual(replies(*GAME, chord(0, 0), open_(1, 1), flag(0, 1), chord(1, 1))[3:], [0, 1, 1, 0])

    def test_more_flags_than_it_shows(self):
        calls = [*GAME, flag(0, 1), flag(1, 1), chord(0, 0)]
        self.assertEqual(last(*calls), 0)
        self.assertEqual(seen(6, 5, *calls), ["#.....", "FF....", "......", "......", "......"])

    def test_a_flag_that_was_taken_away(self):
        self.assertEqual(last(*GAME, flag(0, 1), flag(0, 1), chord(0, 0)), 0)

    def test_a_dark_cell(self):
        calls = [*GAME, chord(5, 0), chord(0, 1), flag(1, 1), chord(1, 1), chord(2, 0), chord(2, 2)]
        self.assertEqual(replies(*calls)[3:], [0, 0, 1, 0, 0, 0])
        self.assertEqual(seen(6, 5, *calls), ["#.....", ".F....", "......", "......", "......"])

    def test_a_dark_cell_in_the_midst_of_flags(self):
        flags = [flag(x, y) for x in (2, 3, 4) for y in (0, 1, 2) if (x, y) != (3, 1)]
        self.assertEqual(replies(*GAME, *flags, chord(3, 1), open_(3, 1))[-2:], [0, 1])

    def test_nothing_left_to_open(self):
        calls = [*GAME, flag(0, 1), chord(0, 0), chord(0, 0)]
        self.assertEqual(replies(*calls)[3:], [1, 1, 0])
        self.assertEqual(replies(*GAME, open_(5, 0), chord(5, 0), chord(5, 4), chord(3, 1))[3:], [1, 0, 0, 0])


class Refusal(unittest.TestCase):
    def test_no_such_cell(self):
        for x, y in [(-1, 0), (6, 0), (0, -1), (0, 5)]:
            self.assertEqual(last(*GAME, chord(x, y)), -1)
            self.assertEqual(last(begin(), board(6, 5, 3), chord(x, y)), -1)
            self.assertEqual(last(*GAME, open_(0, 1), chord(x, y)), -1)

    def test_not_dealt(self):
        self.assertEqual(last(begin(), board(6, 5, 3), chord(0, 0)), -2)

    def test_over(self):
        self.assertEqual(replies(*GAME, open_(0, 1), chord(0, 0), chord(5, 0))[-2:], [-2, -2])
        self.assertEqual(replies(*GAME, open_(5, 0), open_(0, 4), chord(0, 0), chord(0, 1))[-2:], [-2, -2])


if __name__ == "__main__":
    unittest.main()
