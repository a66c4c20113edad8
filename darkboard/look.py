"""The call view: what's seen of a board."""

from darkboard.board import is_dark

MOST_ASKED = 65536

UNTOUCHED = 9
FLAGGED = 10
BLOWN_UP = 11

TOO_MANY = -2


def view(board, most):
    cells = len(board.shown)
    # Asking for more than may be asked for counts as asking for none.
    if most > MOST_ASKED or cells > most:
        return [TOO_MANY]
    return [cells] + [seen(board, cell) for cell in range(cells)]


def seen(board, cell):
    if not is_dark(board, cell):
        return board.shown[cell]
    if board.mined[cell] and board.lost:
        return BLOWN_UP
    if board.flagged[cell]:
        return FLAGGED
    return UNTOUCHED
