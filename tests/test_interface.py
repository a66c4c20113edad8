"""The interface: how calls are handed in, and what is given back."""

import contextlib
import io
import unittest

from darkboard.mines import answers
from tests.lines import (HIGHEST, LOWEST, begin, best, board, chance, chord, deal, flag, layouts, line_of, open_, set_,
                         set_up, sure, told, view)

LINE = line_of([begin(), board(6, 5, 3), open_(0, 0), deal(7, 0, 0), flag(0, 1), chord(0, 0), board(0, 0, 0),
                open_(0, 2), flag(1, 4), set_(0, 0, 1), view(29), begin(), deal(7, 0, 0), board(5, 1, 2), set_(1, 0, 1),
                view(5), layouts(), chance(0, 0), chance(1, 0), sure(), best(), set_(1, 0, 3), layouts(), sure()])
GIVEN_BACK = [1, 0, 1, 0, 1, -2, 1, 1, 1, 1, 1, 1, 1, -1, 1, 2, 1, -2, 1, -1, 1, -2, 1, 0, 1, -4, 1, 0, 1, 0,
              6, 5, 9, 1, 9, 9, 9, 33, 0, 4, *[0] * 31, 65, 0, 1, *[0] * 31, 2, *[0] * 31, 1, -1, 65, 0, *[0] * 64,
              3, 0, 0, 0, 1, 0, 33, 0, *[0] * 32, 1, -2]


class GivenBack(unittest.TestCase):
    def test_of_no_calls_nothing(self):
        self.assertEqual(answers([]), [])

    def test_how_many_numbers_stand_before_each_answer(self):
        self.assertEqual(answers([0]), [1, 0])
        self.assertEqual(answers(LINE), GIVEN_BACK)

    def test_it_is_a_list_of_whole_numbers(self):
        given = answers(LINE)
        self.assertIs(type(given), list)
        self.assertEqual({type(number) for number in given}, {int})

    def test_nothing_is_printed(self):
        with contextlib.redirect_stdout(io.StringIO()) as out, contextlib.redirect_stderr(io.StringIO()) as wrong:
            answers(LINE)
        self.assertEqual(out.getvalue() + wrong.getvalue(), "")

    def test_four_hundred_calls(self):
        calls = [begin(), board(16, 16, 255), deal(18446744073709551615, 15, 15)] + [open_(0, 0)] * 397
        self.assertEqual(answers(line_of(calls)), [1, 0, 1, 0, 1, 3] + [1, -2] * 397)
        self.assertEqual(answers([0] * 400), [1, 0] * 400)

    def test_four_hundred_calls_of_all_kinds(self):
        calls = [begin(), board(5, 1, 2)]
        calls += [set_(1, 0, 1), view(5), layouts(), chance(3, 0), sure(), best(), chord(0, 0), set_(1, 0, 9)] * 49
        calls += [deal(0, 0, 0), open_(0, 0), flag(0, 0), layouts(), sure(), best()]
        self.assertEqual(len(calls), 400)
        answered = told(*calls)
        self.assertEqual([answer[0] for answer in answered[2:394]], [0, 5, 0, 0, 0, 0, -2, 0] * 49)
        self.assertEqual([len(answer) for answer in answered[2:394]], [1, 6, 33, 65, 65, 3, 1, 1] * 49)
        self.assertEqual(answered[2:10] * 49, answered[2:394])

    def test_four_hundred_calls_that_weigh_a_hard_board_anew(self):
        picture = ["." * 16] * 12 + ["....4...........", "3.4...3.........", "..4.312.........", "2...2.1........."]
        calls = set_up(100, *picture)
        while len(calls) <= 396:
            calls += [set_(0, 13, 2), layouts(), set_(0, 13, 3), sure()]
        calls += [layouts()] * (400 - len(calls))
        self.assertEqual([answer[0] for answer in told(*calls)[-40:]], [0] * 40)

    def test_view_takes_the_most_room(self):
        calls = [begin(), board(16, 16, 1)] + [view(256)] * 398
        self.assertEqual(answers(line_of(calls)), [1, 0, 1, 0] + [257, 256, *[9] * 256] * 398)

    def test_no_call_raises(self):
        cells = [(0, 0), (1, 1), (-1, 0), (LOWEST, HIGHEST)]
        calls = [view(most) for most in (LOWEST, 0, 1, 16, 65537)] + [layouts(), sure(), best()]
        for x, y in cells:
            calls += [set_(x, y, number) for number in (LOWEST, -1, 0, 1, 8, 9, 10, HIGHEST)]
            calls += [chance(x, y), open_(x, y), flag(x, y), chord(x, y), deal(3, x, y)]
        for start in [[], [board(4, 4, 3)], [board(4, 4, 3), set_(0, 0, 3)], [board(4, 4, 3), deal(3, 0, 0)],
                      [board(4, 4, 15), deal(3, 0, 0)], [board(2, 1, 1)]]:
            self.assertEqual(len(told(begin(), *start, *calls)), 1 + len(start) + len(calls))


class HandedIn(unittest.TestCase):
    def test_it_is_not_changed(self):
        line = list(LINE)
        answers(line)
        self.assertEqual(line, LINE)

    def test_it_is_not_changed_for_a_while_either(self):
        class Watched(list):
            def changed(self, *numbers):
                raise AssertionError("the list is changed")

            append = extend = insert = pop = remove = clear = sort = reverse = changed
            __setitem__ = __delitem__ = __iadd__ = __imul__ = changed

        self.assertEqual(answers(Watched(LINE)), GIVEN_BACK)


class NothingIsKept(unittest.TestCase):
    def test_the_same_list_twice(self):
        first = answers(LINE)
        self.assertEqual(answers(LINE), first)

    def test_what_is_given_back_is_its_own(self):
        answers(LINE).clear()
        self.assertEqual(answers(LINE), GIVEN_BACK)

    def test_no_board_stays_from_the_list_before(self):
        answers(line_of([begin(), board(6, 5, 3), deal(7, 0, 0)]))
        self.assertEqual(answers(line_of([begin(), open_(0, 1)])), [1, 0, 1, -4])

    def test_nothing_weighed_stays_from_the_list_before(self):
        first = answers(line_of([begin(), board(5, 1, 2), layouts(), set_(1, 0, 1), layouts()]))
        answers(line_of([begin(), board(5, 1, 1), set_(1, 0, 1), layouts(), sure(), best()]))
        self.assertEqual(answers(line_of([begin(), board(5, 1, 2), layouts(), set_(1, 0, 1), layouts()])), first)
        self.assertEqual((first[5], first[6], first[-32]), (0, 10, 4))


if __name__ == "__main__":
    unittest.main()
