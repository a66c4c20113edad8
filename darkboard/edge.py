"""The edge of a board: its dark cells that touch shown ones."""

from darkboard.board import dark_cells, is_dark, touching


def shown_near(board, cell):
    return [other for other in touching(board, cell) if not is_dark(board, other)]


def dark_near(board, cell):
    return [other for other in touching(board, cell) if is_dark(board, other)]


def edge_of(board):
    return [cell for cell in dark_cells(board) if len(shown_near(board, cell)) > 0]


def by_nearness(board, edge):
    """The edge in another order: cells that touch the same number come soon behind one another."""
    order = []
    place = 0
    for start in edge:
        add_new(order, [start])
        while place < len(order):
            for shown in shown_near(board, order[place]):
                add_new(order, dark_near(board, shown))
            place += 1
    return order


def add_new(order, cells):
    for cell in cells:
        if cell not in order:
            order.append(cell)
