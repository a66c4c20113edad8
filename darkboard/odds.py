"""The calls that weigh a board: each gives back all the numbers that it answers."""

from darkboard.board import dark_cells, is_dark
from darkboard.weigh import LONGEST_EDGE, weights_of

NUMBER_BYTES = 32

DONE = 0
REFUSED = -1
NO_LAYOUTS = -2
EDGE_TOO_LONG = -3


def layouts(board):
    weights = weights_of(board)
    if weights.edge_length > LONGEST_EDGE:
        return [EDGE_TOO_LONG]
    return [DONE] + bytes_of(weights.total)


def chance_of(board, cell):
    weights = weights_of(board)
    refusal = refusal_of(weights)
    if refusal < 0:
        return [refusal]
    if not is_dark(board, cell):
        return [REFUSED]
    mined = weights.mined[cell]
    factor = shared_factor(mined, weights.total)
    return [DONE] + bytes_of(mined // factor) + bytes_of(weights.total // factor)


def sure(board):
    weights = weights_of(board)
    refusal = refusal_of(weights)
    if refusal < 0:
        return [refusal]
    dark = dark_cells(board)
    in_none = [cell for cell in dark if weights.mined[cell] == 0]
    in_all = [cell for cell in dark if weights.mined[cell] == weights.total]
    return [len(in_none) + len(in_all)] + bits_of(in_none) + bits_of(in_all)


def best(board):
    weights = weights_of(board)
    refusal = refusal_of(weights)
    if refusal < 0:
        return [refusal]
    # Where there are layouts there's a dark cell, since there's a mine.
    cell = min(dark_cells(board), key=lambda dark: weights.mined[dark])
    return [DONE, cell % board.width, cell // board.width]


def refusal_of(weights):
    if weights.edge_length > LONGEST_EDGE:
        return EDGE_TOO_LONG
    if weights.total == 0:
        return NO_LAYOUTS
    return DONE


def shared_factor(first, second):
    while second > 0:
        rest = first % second
        first = second
        second = rest
    return first


def bytes_of(number):
    return [(number >> (8 * place)) & 255 for place in range(NUMBER_BYTES)]


def bits_of(cells):
    row = [0] * NUMBER_BYTES
    for cell in cells:
        row[cell // 8] += 1 << (cell % 8)
    return row
