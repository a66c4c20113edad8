"""How many layouts a board has, and in how many of them each cell is mined.

The edge is gone through cell by cell. All ways to mine the cells so far are
sorted by their tally: how many of them are mined, and how many mined ones each
shown cell touches. Ways with the same tally go on alike, so they're counted
together; that keeps the tallies few where the ways are many.
"""

from darkboard.board import dark_count, is_dark
from darkboard.edge import by_nearness, dark_near, edge_of, shown_near

LONGEST_EDGE = 24

# A tally holds its counts in one number, each in bits of its own: lowest how
# many are mined, which is at most 24, and above it one count for each shown cell.
COUNT_BITS = 5
COUNT_MASK = 31


class Weights:
    def __init__(self, edge_length, total, mined):
        self.edge_length = edge_length
        self.total = total
        self.mined = mined


class Step:
    """A cell of the edge: what a mine there adds to a tally, and which bounds a tally keeps to behind it."""

    def __init__(self, cell, added, bounds):
        self.cell = cell
        self.added = added
        self.bounds = bounds


def weights_of(board):
    # Many calls may ask about one board, so it's weighed once until it changes.
    if board.weights is None:
        board.weights = weigh(board)
    return board.weights


def weigh(board):
    edge = edge_of(board)
    # Behind a longer edge all is refused, and a number that can't be met leaves nothing to count.
    if len(edge) > LONGEST_EDGE or asks_too_much(board):
        return Weights(len(edge), 0, [0] * len(board.shown))
    steps = steps_of(board, by_nearness(board, edge))
    return weigh_steps(board, steps, dark_count(board) - len(edge))


def asks_too_much(board):
    shown = [cell for cell in range(len(board.shown)) if not is_dark(board, cell)]
    return any([board.shown[cell] > len(dark_near(board, cell)) for cell in shown])


def steps_of(board, order):
    steps = []
    shifts = {}
    to_come = {}
    for cell in order:
        added = 1
        bounds = []
        for shown in shown_near(board, cell):
            if shown not in shifts:
                shifts[shown] = COUNT_BITS * (len(shifts) + 1)
                to_come[shown] = len(dark_near(board, shown))
            to_come[shown] -= 1
            added += 1 << shifts[shown]
            # Below the least, not even mines in all cells to come would do.
            bounds.append((shifts[shown], board.shown[shown] - to_come[shown], board.shown[shown]))
        steps.append(Step(cell, added, bounds))
    return steps


def weigh_steps(board, steps, rest):
    """Go through the steps and back: ways to come to a tally, times ways to go on from it."""
    layers = layers_of(steps)
    last = layers[-1]
    # Off the edge no cell differs from another, so one count does for all; a shown cell's is never asked for.
    off_edge = sum([ways * choices(rest - 1, left_over(board, tally) - 1) for tally, ways in last.items()])
    mined = [off_edge] * len(board.shown)
    endings = {}
    for tally in last:
        endings[tally] = choices(rest, left_over(board, tally))
    for place in range(len(steps) - 1, -1, -1):
        step = steps[place]
        layer = layers[place]
        mined[step.cell] = sum([ways * endings.get(tally + step.added, 0) for tally, ways in layer.items()])
        endings = endings_before(layer, step, endings)
    return Weights(len(steps), endings.get(0, 0), mined)


def layers_of(steps):
    layers = [{0: 1}]
    for step in steps:
        layers.append(layer_behind(layers[-1], step))
    return layers


def layer_behind(layer, step):
    behind = {}
    for tally, ways in layer.items():
        for after in (tally, tally + step.added):
            if keeps_to(after, step.bounds):
                behind[after] = behind.get(after, 0) + ways
    return behind


def keeps_to(tally, bounds):
    for shift, least, most in bounds:
        count = (tally >> shift) & COUNT_MASK
        if count < least or count > most:
            return False
    return True


def endings_before(layer, step, endings):
    before = {}
    for tally in layer:
        before[tally] = endings.get(tally, 0) + endings.get(tally + step.added, 0)
    return before


def left_over(board, tally):
    return board.mines - (tally & COUNT_MASK)


def choices(cells, mines):
    """In how many ways so many of the cells are mined: none, where they're too few or too many."""
    if mines < 0 or mines > cells:
        return 0
    ways = 1
    for place in range(mines):
        ways = ways * (cells - place) // (place + 1)
    return ways
