"""Promise 9: layouts, and the -3 and -2 that it shares or doesn't share with the next three."""

import unittest
from math import comb

from tests.lines import (begin, best, board, chance, count_of, deal, flag, last_told, layouts, open_, replies, set_,
                         set_up, sure)

# Five cells of the upper row, each with five dark ones around it that no other one touches: 25 on the edge.
FIVE_APART = "." + "1..1..1..1..1" + ".."
ALL_DARK = "." * 16


class NoCellShown(unittest.TestCase):
    def test_every_set_of_as_many_cells(self):
        for width, height, mines in [(4, 3, 5), (1, 2, 1), (16, 1, 8), (3, 3, 8), (16, 16, 1), (16, 16, 255)]:
            with self.subTest(width=width, height=height, mines=mines):
                self.assertEqual(count_of(begin(), board(width, height, mines)), comb(width * height, mines))

    def test_the_lowest_byte_comes_first(self):
        # 792 ways to choose 5 of 12.
        self.assertEqual(last_told(begin(), board(4, 3, 5), layouts()), [0, 0x18, 0x03] + [0] * 30)

    def test_more_than_eight_bytes(self):
        count = comb(256, 20)
        self.assertGreater(count, 2 ** 64)
        answer = last_told(begin(), board(16, 16, 20), layouts())
        self.assertEqual(answer, [0] + [count // 256 ** place % 256 for place in range(32)])

    def test_the_largest_board(self):
        count = 5768658823449206338089748357862286887740211701975162032608436567264518750790
        self.assertEqual(count_of(begin(), board(16, 16, 128)), count)


class SetBoards(unittest.TestCase):
    def check(self, counts, *picture):
        for mines, count in counts.items():
            with self.subTest(picture=picture, mines=mines):
                self.assertEqual(count_of(*set_up(mines, *picture)), count)

    def test_met_in_several_ways(self):
        self.check({1: 2}, ".1.")
        # One of the two beside the 1, and the mines that are left among the other two.
        self.check({1: 2, 2: 4, 3: 2}, ".1...")
        # One mine in the middle that both touch, or one on each side.
        self.check({1: 1, 2: 1, 3: 0}, ".1.1.")
        self.check({4: comb(8, 3) * 6}, ".....", ".3...", ".....")

    def test_met_in_one_way(self):
        self.check({2: 1}, "...", "121")
        self.check({2: 1}, ".2.")
        self.check({8: 1}, "...", ".8.", "...")
        self.check({2: 1}, "1..1")
        self.check({1: 1}, "1.1")
        # Six cells are off the edge, and none of the edge is mined.
        self.check({3: 20, 5: 6, 6: 1, 7: 0}, ".0....", "......")

    def test_a_number_too_large(self):
        self.check({1: 0, 2: 0}, ".3.")
        self.check({1: 0, 2: 0}, "2..")
        self.check({3: 0}, "...", "...", "..4")

    def test_a_number_too_large_where_no_dark_cell_is_near(self):
        self.check({1: 0}, "11.")
        self.check({1: 0}, "10..")
        self.check({1: 1}, "01.")
        self.check({1: 2, 2: 4, 3: 2}, "001..", "001..")

    def test_a_number_too_small(self):
        self.check({1: 0, 2: 0}, ".0.")
        self.check({2: 0, 1: 2}, ".1.")
        self.check({7: 0, 2: 0, 1: 8}, "...", ".1.", "...")

    def test_numbers_that_gainsay_one_another(self):
        self.check({1: 0}, "1.0")
        self.check({1: 0, 2: 0, 3: 0}, "...", "131")
        self.check({1: 0, 2: 0}, "2.", "1.")

    def test_more_mines_than_dark_cells(self):
        self.check({3: 0, 2: 1, 1: 0}, "2.", "2.")
        self.check({1: 0, 3: 0}, "00", "00")
        self.check({1: 0, 2: 0}, "000")

    def test_fewer_mines_than_the_numbers_ask(self):
        self.check({1: 0, 2: 0, 3: comb(8, 3)}, "...", ".3.", "...")
        self.check({1: 0, 2: 1}, "1..1")
        self.check({1: 0, 2: 0, 3: 0, 4: 9}, "....", "2..2")

    def test_more_mines_than_the_edge_and_the_rest_can_hold(self):
        self.check({3: 2, 4: 0}, ".1...")
        self.check({2: 24, 4: 8, 5: 0}, "....", ".1..", "....")
        self.check({1: 2, 2: 1, 3: 0, 5: 0}, "0..", "...")

    def test_all_cells_shown(self):
        self.check({1: 0, 3: 0}, "00", "00")
        self.check({1: 0}, "11", "11")

    def test_patches_apart(self):
        for first, second, third in [(1, 1, 1), (3, 4, 5), (8, 0, 7), (4, 4, 4)]:
            picture = [ALL_DARK, f".{first}....{second}.....{third}...", *[ALL_DARK] * 14]
            for mines in [1, 12, 30, 128, 240, 252]:
                left = mines - first - second - third
                near = comb(8, first) * comb(8, second) * comb(8, third)
                self.check({mines: near * comb(229, left) if left >= 0 else 0}, *picture)

    def test_a_row_of_numbers_over_the_whole_width(self):
        # The ends ask that the third cell from them is not mined, and mines stand three apart.
        self.check({4: 0, 5: 1, 6: 0}, "1" * 15, "." * 15)
        self.check({5: 0, 6: 1, 7: 0}, "1" * 16, "." * 16)

    def test_behind_another_set(self):
        start = set_up(3, "....", ".1..")
        changed = [layouts(), set_(1, 1, 2), layouts(), set_(1, 1, 9), layouts(), set_(3, 0, 1), layouts()]
        told = [count_of(*start, *changed[:place]) for place in [0, 2, 4, 6]]
        self.assertEqual(told, [5, 10 * 2, comb(8, 3), 3 * comb(4, 2)])


class Edge(unittest.TestCase):
    def refusals(self, *start):
        return [last_told(*start, call) for call in [layouts(), chance(0, 0), chance(1, 0), sure(), best()]]

    def test_just_24(self):
        start = set_up(5, FIVE_APART, ".0" + "." * 14)
        self.assertEqual(count_of(*start), 0)
        start = set_up(5, FIVE_APART, ".1" + "." * 14)
        self.assertEqual(count_of(*start), 4 * 5 ** 4)
        self.assertEqual(replies(*start, chance(0, 0), sure(), best())[-3:], [0, 2, 0])

    def test_just_25(self):
        self.assertEqual(self.refusals(*set_up(5, FIVE_APART, ALL_DARK)), [[-3]] * 5)

    def test_just_25_where_there_are_no_layouts(self):
        self.assertEqual(self.refusals(*set_up(4, FIVE_APART, ALL_DARK)), [[-3]] * 5)
        self.assertEqual(self.refusals(*set_up(5, FIVE_APART.replace("1", "8"), ALL_DARK)), [[-3]] * 5)

    def test_just_24_where_there_are_no_layouts(self):
        start = set_up(4, FIVE_APART, ".1" + "." * 14)
        self.assertEqual(self.refusals(*start), [[0] + [0] * 32] + [[-2]] * 4)

    def test_dark_cells_off_the_edge_do_not_count(self):
        self.assertEqual(count_of(*set_up(9, "0" + "." * 15, *[ALL_DARK] * 15)), comb(252, 9))

    def test_cells_that_are_shown_do_not_count(self):
        rows = ["." + "0" * 15] + ["0" * 16] * 15
        self.assertEqual(count_of(*set_up(1, *rows)), 0)
        rows = [".1" + "0" * 14, "11" + "0" * 14] + ["0" * 16] * 14
        self.assertEqual(count_of(*set_up(1, *rows)), 1)

    def test_a_dark_cell_with_many_numbers_counts_once(self):
        # 24 dark cells in all, each of which touches three or four numbers.
        rows = ["2.3.3.2", ".4.4.4.", "3.4.4.3", ".4.4.4.", "3.4.4.3", ".4.4.4.", "2.3.3.2"]
        self.assertEqual(count_of(*set_up(24, *rows)), 1)
        self.assertEqual(count_of(*set_up(23, *rows)), 0)

    def test_made_shorter_and_longer_again(self):
        calls = [*set_up(5, FIVE_APART, ALL_DARK), layouts(), set_(1, 1, 1), layouts(), set_(1, 1, 9), layouts()]
        self.assertEqual([replies(*calls)[place] for place in (-5, -3, -1)], [-3, 0, -3])

    def test_a_refusal_changes_nothing(self):
        start = set_up(5, FIVE_APART, ALL_DARK)
        self.assertEqual(replies(*start, layouts(), sure(), deal(0, 0, 0), best())[-4:], [-3, -3, -1, -3])


class Games(unittest.TestCase):
    # Mines at (0, 1), (0, 2) and (2, 4); see test_open.py.
    GAME = [begin(), board(6, 5, 3), deal(7, 0, 0)]

    def test_in_play(self):
        # One of three beside the 1, two of 26 others.
        self.assertEqual(count_of(*self.GAME), 3 * comb(26, 2))

    def test_flags_do_not_matter(self):
        self.assertEqual(count_of(*self.GAME, flag(0, 1), flag(5, 4), flag(1, 1)), 3 * comb(26, 2))

    def test_lost(self):
        self.assertEqual(count_of(*self.GAME, open_(0, 1)), 3 * comb(26, 2))

    def test_won(self):
        self.assertEqual(count_of(*self.GAME, open_(5, 0), open_(0, 4)), 1)

    def test_behind_each_opening(self):
        calls = [*self.GAME, layouts(), open_(1, 0), layouts(), open_(5, 0), layouts()]
        counts = [count_of(*calls[:place]) for place in (3, 5, 7)]
        # Once (1, 0) shows 1 too, it's (0, 1) or (1, 1), neither (2, 0) nor (2, 1), and two of 24 others.
        self.assertEqual(counts, [3 * comb(26, 2), 2 * comb(24, 2), 1])

    def test_nothing_is_dealt_by_weighing(self):
        calls = [begin(), board(6, 5, 3), layouts(), deal(7, 0, 0), layouts(), open_(0, 1), layouts()]
        self.assertEqual(replies(*calls)[2:], [0, 1, 0, 2, 0])


if __name__ == "__main__":
    unittest.main()
