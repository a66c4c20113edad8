"""A board: what its cells show, and where its mines and flags lie."""

LONGEST_SIDE = 16

# What a cell shows is at most 8, so 9 is free to say that it shows nothing.
DARK = 9


class Board:
    def __init__(self, width, height, mines):
        cells = width * height
        self.width = width
        self.height = height
        self.mines = mines
        self.shown = [DARK] * cells
        self.mined = [False] * cells
        self.flagged = [False] * cells
        self.dealt = False
        self.lost = False
        self.won = False
        self.weights = None


def can_be(width, height, mines):
    if width < 1 or width > LONGEST_SIDE:
        return False
    if height < 1 or height > LONGEST_SIDE:
        return False
    return mines >= 1 and mines < width * height


def has_cell(board, x, y):
    return x >= 0 and x < board.width and y >= 0 and y < board.height


def cell_at(board, x, y):
    return y * board.width + x


def show(board, cell, number):
    board.shown[cell] = number
    # What was weighed before is another board's now.
    board.weights = None


def is_dark(board, cell):
    return board.shown[cell] == DARK


def dark_cells(board):
    return [cell for cell in range(len(board.shown)) if is_dark(board, cell)]


def dark_count(board):
    return board.shown.count(DARK)


def in_play(board):
    return board.dealt and not board.lost and not board.won


def touching(board, cell):
    x = cell % board.width
    y = cell // board.width
    cells = []
    for other_y in range(max(y - 1, 0), min(y + 2, board.height)):
        for other_x in range(max(x - 1, 0), min(x + 2, board.width)):
            other = cell_at(board, other_x, other_y)
            if other != cell:
                cells.append(other)
    return cells
