"""A row of calls on one board, and the row of what they answer."""

from darkboard.board import Board, can_be, cell_at, has_cell
from darkboard.look import view
from darkboard.odds import best, chance_of, layouts, sure
from darkboard.play import chord, deal, flag, open_cell, set_cell

BEGIN = 0
BOARD = 1
DEAL = 2
OPEN = 3
FLAG = 4
CHORD = 5
SET = 6
VIEW = 7
LAYOUTS = 8
SURE = 10

# By a call's number: how many numbers it hands over, and where among them its
# cell's x stands, with y right behind it.
HANDED_OVER = (0, 3, 3, 2, 2, 2, 3, 1, 0, 2, 0, 0)
CELL_PLACE = (None, None, 1, 0, 0, 0, 0, None, None, 0, None, None)

DONE = 0
OUT_OF_RANGE = -1
NO_BOARD = -4


class Line:
    def __init__(self):
        self.board = None


def answers(calls):
    line = Line()
    answered = []
    place = 0
    while place < len(calls):
        call = calls[place]
        behind = place + 1 + HANDED_OVER[call]
        answer = answer_call(line, call, calls[place + 1:behind])
        answered.append(len(answer))
        answered.extend(answer)
        place = behind
    return answered


def answer_call(line, call, numbers):
    if call == BEGIN:
        line.board = None
        return [DONE]
    if call == BOARD:
        return [lay_board(line, numbers[0], numbers[1], numbers[2])]
    if line.board is None:
        return [NO_BOARD]
    if CELL_PLACE[call] is None:
        return answer_of_board(line.board, call, numbers)
    x = numbers[CELL_PLACE[call]]
    y = numbers[CELL_PLACE[call] + 1]
    if not has_cell(line.board, x, y):
        return [OUT_OF_RANGE]
    return answer_of_cell(line.board, call, numbers, cell_at(line.board, x, y))


def lay_board(line, width, height, mines):
    if not can_be(width, height, mines):
        return OUT_OF_RANGE
    line.board = Board(width, height, mines)
    return DONE


def answer_of_board(board, call, numbers):
    if call == VIEW:
        return view(board, numbers[0])
    if call == LAYOUTS:
        return layouts(board)
    if call == SURE:
        return sure(board)
    return best(board)


def answer_of_cell(board, call, numbers, cell):
    if call == DEAL:
        return [deal(board, numbers[0], cell)]
    if call == OPEN:
        return [open_cell(board, cell)]
    if call == FLAG:
        return [flag(board, cell)]
    if call == CHORD:
        return [chord(board, cell)]
    if call == SET:
        return [set_cell(board, cell, numbers[2])]
    return chance_of(board, cell)
