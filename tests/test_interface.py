"""The interface: how calls are handed in, and what is given back."""

import contextlib
import io
import unittest

from darkboard.mines import answers
from tests.lines import begin, board, chord, deal, flag, line_of, open_

LINE = line_of([begin(), board(6, 5, 3), open_(0, 0), deal(7, 0, 0), flag(0, 1), chord(0, 0), board(0, 0, 0),
                open_(0, 2), flag(1, 4), begin(), deal(7, 0, 0)])
GIVEN_BACK = [1, 0, 1, 0, 1, -2, 1, 1, 1, 1, 1, 1, 1, -1, 1, 2, 1, -2, 1, 0, 1, -4]


class GivenBack(unittest.TestCase):
    def test_of_no_calls_nothing(self):
        self.assertEqual(answers([]), [])

    def test_how_many_numbers_stand_before_each_answer(self):
        self.assertEqual(answers([0]), [1, 0])
        self.assertEqual(answers(LINE), GIVEN_BACK)

    def test_it_is_a_list_of_whole_numbers(self):
        given = answers(LINE)
        self.assertIs(type(given), list)
        self.assertEqual({type(number) for number in given}, {int})

    def test_nothing_is_printed(self):
        with contextlib.redirect_stdout(io.StringIO()) as out, contextlib.redirect_stderr(io.StringIO()) as wrong:
            answers(LINE)
        self.assertEqual(out.getvalue() + wrong.getvalue(), "")

    def test_four_hundred_calls(self):
        calls = [begin(), board(16, 16, 255), deal(18446744073709551615, 15, 15)] + [open_(0, 0)] * 397
        self.assertEqual(answers(line_of(calls)), [1, 0, 1, 0, 1, 3] + [1, -2] * 397)
        self.assertEqual(answers([0] * 400), [1, 0] * 400)


class HandedIn(unittest.TestCase):
    def test_it_is_not_changed(self):
        line = list(LINE)
        answers(line)
        self.assertEqual(line, LINE)

    def test_it_is_not_changed_for_a_while_either(self):
        class Watched(list):
            def changed(self, *numbers):
                raise AssertionError("the list is changed")

            append = extend = insert = pop = remove = clear = sort = reverse = changed
            __setitem__ = __delitem__ = __iadd__ = __imul__ = changed

        self.assertEqual(answers(Watched(LINE)), GIVEN_BACK)


class NothingIsKept(unittest.TestCase):
    def test_the_same_list_twice(self):
        first = answers(LINE)
        self.assertEqual(answers(LINE), first)

    def test_what_is_given_back_is_its_own(self):
        answers(LINE).clear()
        self.assertEqual(answers(LINE), GIVEN_BACK)

    def test_no_board_stays_from_the_list_before(self):
        answers(line_of([begin(), board(6, 5, 3), deal(7, 0, 0)]))
        self.assertEqual(answers(line_of([begin(), open_(0, 1)])), [1, 0, 1, -4])


if __name__ == "__main__":
    unittest.main()
