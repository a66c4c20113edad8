"""Promise 11: sure."""

import unittest

from tests.lines import begin, board, deal, flag, last_told, open_, set_, set_up, sure, sure_of

# 25 cells are on the edge of this one; see test_layouts.py.
LONG_EDGE = set_up(5, ".1..1..1..1..1..", "." * 16)


class Cells(unittest.TestCase):
    def test_number_by_number(self):
        # Mined are (0, 0) and (2, 0); (1, 0) isn't.
        self.assertEqual(last_told(*set_up(2, "...", "121"), sure()), [3] + [2] + [0] * 31 + [5] + [0] * 31)

    def test_mined_in_no_layout(self):
        self.assertEqual(sure_of(*set_up(1, ".0...")), (2, [0, 2], []))

    def test_mined_in_all(self):
        self.assertEqual(sure_of(*set_up(3, ".2...")), (2, [], [0, 2]))
        self.assertEqual(sure_of(*set_up(8, "...", ".8.", "...")), (8, [], [0, 1, 2, 3, 5, 6, 7, 8]))

    def test_both_at_once(self):
        self.assertEqual(sure_of(*set_up(1, ".0..")), (3, [0, 2], [3]))
        self.assertEqual(sure_of(*set_up(2, "...", "121")), (3, [1], [0, 2]))

    def test_none_of_either(self):
        for start in [set_up(1, ".1."), [begin(), board(4, 3, 5)], [begin(), board(16, 16, 255)], set_up(2, ".1...")]:
            self.assertEqual(last_told(*start, sure()), [0] + [0] * 64)

    def test_the_edge_takes_all_the_mines(self):
        self.assertEqual(sure_of(*set_up(1, ".1...")), (2, [3, 4], []))
        self.assertEqual(sure_of(*set_up(3, ".....", ".3...", ".....")), (6, [3, 4, 8, 9, 13, 14], []))

    def test_all_off_the_edge_are_mined(self):
        self.assertEqual(sure_of(*set_up(3, ".1...")), (2, [], [3, 4]))
        self.assertEqual(sure_of(*set_up(9, ".....", ".3...", ".....")), (6, [], [3, 4, 8, 9, 13, 14]))

    def test_shown_cells_are_not_among_them(self):
        self.assertEqual(sure_of(*set_up(1, "01.")), (1, [], [2]))
        self.assertEqual(sure_of(*set_up(1, "0000", "0011", "001.")), (1, [], [11]))

    def test_behind_another_set(self):
        start = set_up(1, ".1...")
        self.assertEqual(sure_of(*start, sure(), set_(1, 0, 9)), (0, [], []))
        self.assertEqual(sure_of(*start, sure(), set_(1, 0, 0)), (2, [0, 2], []))


class Bits(unittest.TestCase):
    def test_cells_above_7(self):
        # Of 6 by 2, the cells 4, 10 and 11 touch the last of the upper row.
        self.assertEqual(sure_of(*set_up(3, ".....3", "......")), (11, [0, 1, 2, 3, 6, 7, 8, 9], [4, 10, 11]))

    def test_cells_above_63(self):
        answer = last_told(*set_up(3, *["." * 16] * 15, "." * 15 + "3"), sure())
        mined = [238, 239, 254]
        others = [cell for cell in range(255) if cell not in mined]
        bits = [0] * 64
        for cell in others:
            bits[cell // 8] += 2 ** (cell % 8)
        for cell in mined:
            bits[32 + cell // 8] += 2 ** (cell % 8)
        self.assertEqual(answer, [255] + bits)

    def test_the_last_cell(self):
        rows = ["0" * 16] * 14 + ["0" * 14 + "11", "0" * 14 + "1."]
        self.assertEqual(last_told(*set_up(1, *rows), sure()), [1] + [0] * 32 + [0] * 31 + [128])

    def test_each_cell_alone(self):
        for place in range(1, 16):
            row = ["0"] * 16
            row[place] = "."
            row[place - 1] = "1"
            if place < 15:
                row[place + 1] = "1"
            with self.subTest(place):
                self.assertEqual(sure_of(*set_up(1, "".join(row))), (1, [], [place]))


class Games(unittest.TestCase):
    # Mines at (0, 1), (0, 2) and (2, 4), as drawn in test_open.py.
    GAME = [begin(), board(6, 5, 3), deal(7, 0, 0)]

    def test_in_play(self):
        self.assertEqual(sure_of(*self.GAME), (0, [], []))
        self.assertEqual(sure_of(*self.GAME, sure(), open_(5, 0)), (6, [18, 24, 25], [6, 12, 26]))

    def test_flags_do_not_matter(self):
        self.assertEqual(sure_of(*self.GAME, open_(5, 0), flag(0, 3), flag(0, 2)), (6, [18, 24, 25], [6, 12, 26]))

    def test_lost(self):
        self.assertEqual(sure_of(*self.GAME, open_(0, 1)), (0, [], []))
        self.assertEqual(sure_of(*self.GAME, open_(5, 0), open_(0, 1)), (6, [18, 24, 25], [6, 12, 26]))

    def test_won(self):
        self.assertEqual(sure_of(*self.GAME, open_(5, 0), open_(0, 4)), (3, [], [6, 12, 26]))


class Refusal(unittest.TestCase):
    def test_no_board(self):
        self.assertEqual(last_told(begin(), sure()), [-4])

    def test_a_long_edge(self):
        self.assertEqual(last_told(*LONG_EDGE, sure()), [-3])

    def test_no_layouts(self):
        for start in [set_up(1, ".3."), set_up(2, ".1."), set_up(1, ".0."), set_up(1, "00"), set_up(1, "1..1")]:
            self.assertEqual(last_told(*start, sure()), [-2])

    def test_a_long_edge_comes_ahead_of_no_layouts(self):
        self.assertEqual(last_told(*LONG_EDGE, set_(1, 0, 8), sure()), [-3])


if __name__ == "__main__":
    unittest.main()
