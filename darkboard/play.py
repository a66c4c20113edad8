"""The calls that set up and play a board: each gives back the number that it answers."""

from darkboard.board import DARK, dark_count, in_play, is_dark, show, touching
from darkboard.chance import Chance

DONE = 0
NOTHING = 0
GOES_ON = 1
LOST = 2
WON = 3

REFUSED = -1
NOT_IN_PLAY = -2


def set_cell(board, cell, number):
    if number < 0 or number > DARK or board.dealt:
        return REFUSED
    show(board, cell, number)
    return DONE


def deal(board, seed, cell):
    cells = len(board.shown)
    if board.dealt or dark_count(board) < cells:
        return REFUSED
    row = [other for other in range(cells) if other != cell]
    stir(row, board.mines, Chance(seed))
    for mine in row[:board.mines]:
        board.mined[mine] = True
    board.flagged = [False] * cells
    board.dealt = True
    return uncover(board, [cell])


def stir(row, times, chance):
    for place in range(times):
        other = place + chance.draw() % (len(row) - place)
        kept = row[place]
        row[place] = row[other]
        row[other] = kept


def open_cell(board, cell):
    if not in_play(board):
        return NOT_IN_PLAY
    return uncover(board, [cell])


def flag(board, cell):
    if not in_play(board):
        return NOT_IN_PLAY
    if not is_dark(board, cell):
        return REFUSED
    board.flagged[cell] = not board.flagged[cell]
    return 1 if board.flagged[cell] else 0


def chord(board, cell):
    if not in_play(board):
        return NOT_IN_PLAY
    near = touching(board, cell)
    flags = len([other for other in near if board.flagged[other]])
    if is_dark(board, cell) or board.shown[cell] != flags:
        return NOTHING
    return uncover(board, near)


def uncover(board, cells):
    waiting = [cell for cell in cells if may_be_uncovered(board, cell)]
    if len(waiting) == 0:
        return NOTHING
    if any([board.mined[cell] for cell in waiting]):
        board.lost = True
        return LOST
    spread(board, waiting)
    if dark_count(board) == board.mines:
        board.won = True
        return WON
    return GOES_ON


def may_be_uncovered(board, cell):
    return is_dark(board, cell) and not board.flagged[cell]


def spread(board, waiting):
    while len(waiting) > 0:
        cell = waiting.pop()
        # A cell that touches several others may wait more than once.
        if is_dark(board, cell):
            near = touching(board, cell)
            show(board, cell, len([other for other in near if board.mined[other]]))
            if board.shown[cell] == 0:
                waiting.extend([other for other in near if may_be_uncovered(board, other)])
