"""Promise 3: deal, and the numbers of chance."""

import unittest

from darkboard.board import Board
from darkboard.chance import Chance
from darkboard.play import deal as deal_on
from tests.lines import begin, board, chord, deal, flag, last, mines_of, open_, replies, seen, set_, viewed

HIGHEST_SEED = 18446744073709551615

NUMBERS = {
    0: [0xE220A8397B1DCDAF, 0x6E789E6AA1B965F4, 0x06C45D188009454F, 0xF88BB8A8724C81EC, 0x1B39896A51A8749B],
    1: [0x910A2DEC89025CC1, 0xBEEB8DA1658EEC67, 0xF893A2EEFB32555E, 0x71C18690EE42C90B, 0x71BB54D8D101B5B9],
    HIGHEST_SEED: [0xE4D971771B652C20, 0xE99FF867DBF682C9, 0x382FF84CB27281E9, 0x6D1DB36CCBA982D2],
}


class Numbers(unittest.TestCase):
    def test_they_follow_from_the_seed(self):
        for seed, numbers in NUMBERS.items():
            with self.subTest(seed=seed):
                chance = Chance(seed)
                self.assertEqual([chance.draw() for _ in numbers], numbers)


class Layout(unittest.TestCase):
    def test_seed_0(self):
        # Row: 0 1 2 3 4 5 6 8 9 10 11 12 13 14, 14 of them without cell 7.
        # E220A8397B1DCDAF modulo 14 is 9: places 0 and 9 change; 10 is mined, 0 lies at place 9.
        # 6E789E6AA1B965F4 modulo 13 is 0: place 1 stays; 1 is mined.
        # 06C45D188009454F modulo 12 is 7: places 2 and 9 change; 0 is mined.
        self.assertEqual(mines_of(5, 3, 3, 0, 2, 1), ["**...", ".....", "*...."])

    def test_seed_1(self):
        # Row: 0 1 2 3 4 6 7 8 9 10 11, 11 of them without cell 5.
        # 910A2DEC89025CC1 modulo 11 is 9: places 0 and 9 change; 10 is mined, 0 lies at place 9.
        # BEEB8DA1658EEC67 modulo 10 is 9: places 1 and 10 change; 11 is mined.
        # F893A2EEFB32555E modulo 9 is 3: places 2 and 5 change; 6 is mined.
        # 71C18690EE42C90B modulo 8 is 3: places 3 and 6 change; 7 is mined.
        # 71BB54D8D101B5B9 modulo 7 is 5: places 4 and 9 change; 0 is mined.
        self.assertEqual(mines_of(4, 3, 5, 1, 1, 1), ["*...", "..**", "..**"])

    def test_highest_seed(self):
        # Row: 0 to 13, 14 of them without cell 14.
        # E4D971771B652C20 modulo 14 is 0: place 0 stays; 0 is mined.
        # E99FF867DBF682C9 modulo 13 is 2: places 1 and 3 change; 3 is mined, 1 lies at place 3.
        # 382FF84CB27281E9 modulo 12 is 1: places 2 and 3 change; 1 is mined.
        # 6D1DB36CCBA982D2 modulo 11 is 8: places 3 and 11 change; 11 is mined.
        self.assertEqual(mines_of(5, 3, 4, HIGHEST_SEED, 4, 2), ["**.*.", ".....", ".*..."])

    def test_the_named_cell_is_left_out_of_the_row(self):
        # With seed 0 those at places 9, 1 and 0 are mined: which cells that is, the named one decides.
        self.assertEqual(mines_of(5, 3, 3, 0, 0, 0), [".**..", ".....", "*...."])
        self.assertEqual(mines_of(5, 3, 3, 0, 1, 0), ["*.*..", ".....", "*...."])
        self.assertEqual(mines_of(5, 3, 3, 0, 0, 2), ["**...", "....*", "....."])
        self.assertEqual(mines_of(5, 3, 3, 0, 4, 2), ["**...", "....*", "....."])

    def test_two_cells_that_are_left(self):
        # E220A8397B1DCDAF and 910A2DEC89025CC1 are odd, E4D971771B652C20 is even.
        self.assertEqual(mines_of(3, 1, 1, 0, 1, 0), ["..*"])
        self.assertEqual(mines_of(3, 1, 1, 1, 1, 0), ["..*"])
        self.assertEqual(mines_of(3, 1, 1, HIGHEST_SEED, 1, 0), ["*.."])

    def test_the_named_cell_is_never_mined(self):
        for seed in range(40):
            for x in range(3):
                for y in range(2):
                    self.assertIn(last(begin(), board(3, 2, 3), deal(seed, x, y)), (1, 3))


class Answer(unittest.TestCase):
    def test_a_game_that_goes_on(self):
        calls = [begin(), board(5, 3, 3), deal(0, 2, 1)]
        self.assertEqual(last(*calls), 1)
        self.assertEqual(seen(5, 3, *calls), [".....", "..#..", "....."])

    def test_the_opening_spreads(self):
        calls = [begin(), board(5, 3, 4), deal(HIGHEST_SEED, 4, 2)]
        self.assertEqual(last(*calls), 1)
        self.assertEqual(seen(5, 3, *calls), [".....", "..###", "..###"])

    def test_all_others_are_mined(self):
        for width, height in [(1, 2), (2, 1), (4, 4), (1, 16), (16, 16)]:
            with self.subTest(width=width, height=height):
                calls = [begin(), board(width, height, width * height - 1), deal(0, width - 1, 0), open_(0, height - 1)]
                self.assertEqual(replies(*calls)[2:], [3, -2])

    def test_the_opening_spreads_over_all_that_is_not_mined(self):
        # 910A2DEC89025CC1 modulo 3 is 2: of 1 2 3 the last is mined.
        self.assertEqual(replies(begin(), board(4, 1, 1), deal(1, 0, 0), flag(3, 0))[2:], [3, -2])


class Refusal(unittest.TestCase):
    def test_a_second_deal(self):
        start = [begin(), board(5, 3, 3), deal(0, 2, 1), flag(0, 0)]
        for again in [deal(0, 2, 1), deal(1, 0, 0), deal(HIGHEST_SEED, 4, 2)]:
            self.assertEqual(last(*start, again), -1)
            self.assertEqual(seen(5, 3, *start, again), ["F....", "..#..", "....."])
            self.assertEqual(replies(*start, again, open_(0, 0), open_(0, 2))[-2:], [0, 2])

    def test_a_deal_behind_a_lost_or_won_game(self):
        self.assertEqual(last(begin(), board(5, 3, 3), deal(0, 2, 1), open_(0, 0), deal(0, 2, 1)), -1)
        self.assertEqual(last(begin(), board(5, 3, 14), deal(0, 2, 1), deal(0, 2, 1)), -1)

    def test_a_cell_that_is_shown(self):
        for number in range(9):
            for x, y in [(4, 2), (2, 1)]:
                calls = [begin(), board(5, 3, 3), set_(x, y, number), deal(0, 2, 1), open_(0, 0)]
                self.assertEqual(replies(*calls)[3:], [-1, -2])
                self.assertEqual(viewed(5, *calls), viewed(5, *calls[:3]))

    def test_a_refused_deal_does_not_deal(self):
        calls = [begin(), board(5, 3, 3), deal(0, 5, 1), open_(0, 0), chord(2, 1), deal(0, 2, 1)]
        self.assertEqual(replies(*calls)[2:], [-1, -2, -2, 1])


class Flags(unittest.TestCase):
    def test_there_are_none(self):
        laid = Board(5, 3, 3)
        laid.flagged[7] = True
        laid.flagged[0] = True
        self.assertEqual(deal_on(laid, 0, 7), 1)
        self.assertEqual(laid.flagged, [False] * 15)
        self.assertEqual(laid.shown[7], 1)


if __name__ == "__main__":
    unittest.main()
