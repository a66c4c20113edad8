"""Promise 10: chance."""

import unittest

from tests.lines import (HIGHEST, LOWEST, begin, board, chance, chance_at, deal, flag, last_told, open_, replies, set_,
                         set_up)

# 25 cells are on the edge of this one; see test_layouts.py.
LONG_EDGE = set_up(5, ".1..1..1..1..1..", "." * 16)


class Fraction(unittest.TestCase):
    def check(self, start, fractions):
        for (x, y), fraction in fractions.items():
            with self.subTest(start=start, x=x, y=y):
                self.assertEqual(chance_at(x, y, *start), fraction)

    def test_number_by_number(self):
        # 3 of 12 is 1 of 4.
        answer = last_told(begin(), board(4, 3, 3), chance(3, 2))
        self.assertEqual(answer, [0] + [1] + [0] * 31 + [4] + [0] * 31)

    def test_more_than_a_byte(self):
        # 255 of 256.
        answer = last_told(begin(), board(16, 16, 255), chance(0, 15))
        self.assertEqual(answer, [0] + [255] + [0] * 31 + [0, 1] + [0] * 30)

    def test_lowest_terms(self):
        for mines, fraction in {1: (1, 12), 3: (1, 4), 5: (5, 12), 6: (1, 2), 8: (2, 3), 9: (3, 4)}.items():
            self.check([begin(), board(4, 3, mines)], {(0, 0): fraction, (1, 0): fraction, (3, 2): fraction})

    def test_on_the_edge_and_off_it(self):
        start = set_up(4, ".....", ".3...", ".....")
        self.check(start, {(0, 0): (3, 8), (2, 1): (3, 8), (1, 2): (3, 8), (3, 0): (1, 6), (4, 2): (1, 6)})

    def test_cells_that_share_a_number(self):
        # The middle and one of the last two, or the cells beside the middle.
        start = set_up(2, ".1.1...")
        self.check(start, {(0, 0): (1, 3), (2, 0): (2, 3), (4, 0): (1, 3), (5, 0): (1, 3), (6, 0): (1, 3)})

    def test_0_of_something(self):
        self.check(set_up(1, ".1..."), {(0, 0): (1, 2), (3, 0): (0, 1), (4, 0): (0, 1)})
        self.check(set_up(2, "...", "121"), {(1, 0): (0, 1)})
        self.check(set_up(100, "0" + "." * 15, *["." * 16] * 15), {(1, 0): (0, 1), (1, 1): (0, 1), (2, 0): (25, 63)})

    def test_1_of_1(self):
        self.check(set_up(2, ".2."), {(0, 0): (1, 1), (2, 0): (1, 1)})
        self.check(set_up(3, ".1..."), {(0, 0): (1, 2), (3, 0): (1, 1), (4, 0): (1, 1)})
        self.check(set_up(2, "...", "121"), {(0, 0): (1, 1), (2, 0): (1, 1)})

    def test_x_and_y_are_not_mixed_up(self):
        # The corner at (2, 0) shows 2: two of the three around it, one of the other eight.
        start = set_up(3, "..2", "...", "...", "...")
        self.check(start, {(1, 0): (2, 3), (2, 1): (2, 3), (1, 1): (2, 3)})
        self.check(start, {(0, 1): (1, 8), (0, 2): (1, 8), (2, 2): (1, 8)})

    def test_behind_another_set(self):
        start = set_up(1, ".1.")
        self.check([*start, chance(0, 0), set_(1, 0, 9)], {(0, 0): (1, 3), (1, 0): (1, 3)})
        self.check([*start, chance(0, 0), set_(2, 0, 0)], {(0, 0): (1, 1)})


class Games(unittest.TestCase):
    # Mines at (0, 1), (0, 2) and (2, 4), as drawn in test_open.py.
    GAME = [begin(), board(6, 5, 3), deal(7, 0, 0)]

    def test_in_play(self):
        self.assertEqual(chance_at(0, 1, *self.GAME), (1, 3))
        self.assertEqual(chance_at(5, 4, *self.GAME), (1, 13))

    def test_flags_do_not_matter(self):
        self.assertEqual(chance_at(0, 1, *self.GAME, flag(0, 1), flag(5, 4)), (1, 3))
        self.assertEqual(chance_at(5, 4, *self.GAME, flag(0, 1), flag(5, 4)), (1, 13))

    def test_lost(self):
        self.assertEqual(chance_at(0, 1, *self.GAME, open_(0, 1)), (1, 3))
        self.assertEqual(chance_at(5, 4, *self.GAME, open_(0, 1)), (1, 13))

    def test_won(self):
        won = [*self.GAME, open_(5, 0), open_(0, 4)]
        self.assertEqual([chance_at(x, y, *won) for x, y in [(0, 1), (0, 2), (2, 4)]], [(1, 1)] * 3)
        self.assertEqual(last_told(*won, chance(0, 0)), [-1])

    def test_behind_an_opening(self):
        calls = [*self.GAME, chance(0, 3), open_(5, 0)]
        self.assertEqual(chance_at(0, 3, *calls), (0, 1))
        self.assertEqual(chance_at(2, 4, *calls), (1, 1))


class Refusal(unittest.TestCase):
    def test_no_board(self):
        self.assertEqual(last_told(begin(), chance(0, 0)), [-4])
        self.assertEqual(last_told(begin(), chance(-1, 16)), [-4])

    def test_no_such_cell_comes_ahead_of_all_but_that(self):
        no_layouts = set_up(1, "." * 16, "8" + "." * 15)
        for start in [LONG_EDGE, no_layouts, [begin(), board(16, 2, 3)]]:
            for x, y in [(16, 0), (-1, 0), (0, 2), (0, -1), (LOWEST, HIGHEST)]:
                with self.subTest(start=start, x=x, y=y):
                    self.assertEqual(last_told(*start, chance(x, y)), [-1])

    def test_a_long_edge_comes_ahead_of_a_shown_cell(self):
        self.assertEqual(last_told(*LONG_EDGE, chance(0, 0)), [-3])
        self.assertEqual(last_told(*LONG_EDGE, chance(1, 0)), [-3])
        # An 8 with five cells around it leaves no layouts either.
        self.assertEqual(replies(*LONG_EDGE, set_(1, 0, 8), chance(0, 0), chance(1, 0))[-2:], [-3, -3])

    def test_no_layouts_come_ahead_of_a_shown_cell(self):
        for start in [set_up(1, ".3."), set_up(2, ".1."), set_up(1, ".0.")]:
            self.assertEqual([last_told(*start, chance(x, 0)) for x in range(3)], [[-2]] * 3)
        self.assertEqual(last_told(*set_up(1, "00"), chance(1, 0)), [-2])

    def test_a_shown_cell(self):
        start = set_up(1, ".1...")
        self.assertEqual(last_told(*start, chance(1, 0)), [-1])
        self.assertEqual(replies(*start, chance(0, 0), chance(1, 0), set_(3, 0, 0), chance(3, 0))[-4:], [0, -1, 0, -1])


if __name__ == "__main__":
    unittest.main()
