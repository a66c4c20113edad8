"""Promise 12: best."""

import unittest

from tests.lines import begin, best, best_of, board, deal, flag, last_told, open_, set_, set_up

# 25 cells are on the edge of this one; see test_layouts.py.
LONG_EDGE = set_up(5, ".1..1..1..1..1..", "." * 16)


class Cell(unittest.TestCase):
    def test_number_by_number(self):
        self.assertEqual(last_told(*set_up(1, ".1..."), best()), [0, 3, 0])

    def test_the_first_where_all_are_alike(self):
        for width, height, mines in [(4, 3, 5), (1, 16, 1), (16, 1, 15), (16, 16, 128)]:
            self.assertEqual(best_of(begin(), board(width, height, mines)), (0, 0))
        self.assertEqual(best_of(*set_up(1, ".1.")), (0, 0))
        self.assertEqual(best_of(*set_up(2, ".2.")), (0, 0))

    def test_the_first_of_several(self):
        # Mined in one of three: the first, the fifth, the sixth and the last; in two: the third.
        self.assertEqual(best_of(*set_up(2, ".1.1...")), (0, 0))
        self.assertEqual(best_of(*set_up(1, "...1.")), (0, 0))
        # The three around the 0 before those off the edge.
        self.assertEqual(best_of(*set_up(2, "...", "..0", "...", "...")), (1, 0))

    def test_off_the_edge(self):
        # Three of eight on the edge, one of six off it.
        self.assertEqual(best_of(*set_up(4, ".....", ".3...", ".....")), (3, 0))
        self.assertEqual(best_of(*set_up(3, "..2", "...", "...", "...")), (0, 0))
        self.assertEqual(best_of(*set_up(3, "2..", "...", "...", "...")), (2, 0))

    def test_on_the_edge(self):
        # One of two on the edge, all off it.
        self.assertEqual(best_of(*set_up(3, "...1.")), (2, 0))
        # One of eight on the edge, three of six off it.
        self.assertEqual(best_of(*set_up(4, ".....", "...1.", ".....")), (2, 0))

    def test_one_alone_in_the_midst(self):
        # (3, 1) touches the 0; of the others each is mined in a third or in half of the layouts.
        start = set_up(3, "....", "..2.", "..10")
        self.assertEqual(best_of(*start), (3, 1))

    def test_shown_cells_are_not_among_them(self):
        self.assertEqual(best_of(*set_up(1, "1.1")), (1, 0))
        self.assertEqual(best_of(*set_up(1, "0000", "0011", "001.")), (3, 2))

    def test_x_and_y_are_not_mixed_up(self):
        self.assertEqual(best_of(*set_up(1, *".1...")), (0, 3))
        self.assertEqual(best_of(*set_up(1, "0" * 16, "0" * 14 + "11", "0" * 14 + "1.")), (15, 2))
        self.assertEqual(best_of(*set_up(1, *["000"] * 12, "011", "01.")), (2, 13))

    def test_behind_another_set(self):
        start = set_up(1, ".1...")
        self.assertEqual(best_of(*start, best(), set_(1, 0, 9)), (0, 0))
        self.assertEqual(best_of(*start, best(), set_(3, 0, 0)), (2, 0))


class Games(unittest.TestCase):
    # Mines at (0, 1), (0, 2) and (2, 4), as drawn in test_open.py.
    GAME = [begin(), board(6, 5, 3), deal(7, 0, 0)]

    def test_in_play(self):
        self.assertEqual(best_of(*self.GAME), (2, 0))
        self.assertEqual(best_of(*self.GAME, best(), open_(5, 0)), (0, 3))

    def test_flags_do_not_matter(self):
        self.assertEqual(best_of(*self.GAME, flag(2, 0)), (2, 0))

    def test_lost(self):
        self.assertEqual(best_of(*self.GAME, open_(2, 4)), (2, 0))

    def test_won(self):
        self.assertEqual(best_of(*self.GAME, open_(5, 0), open_(0, 4)), (0, 1))


class Refusal(unittest.TestCase):
    def test_no_board(self):
        self.assertEqual(last_told(begin(), best()), [-4])

    def test_a_long_edge(self):
        self.assertEqual(last_told(*LONG_EDGE, best()), [-3])

    def test_no_layouts(self):
        for start in [set_up(1, ".3."), set_up(2, ".1."), set_up(1, ".0."), set_up(1, "00"), set_up(1, "1..1")]:
            self.assertEqual(last_told(*start, best()), [-2])

    def test_a_long_edge_comes_ahead_of_no_layouts(self):
        self.assertEqual(last_told(*LONG_EDGE, set_(1, 0, 8), best()), [-3])


if __name__ == "__main__":
    unittest.main()
