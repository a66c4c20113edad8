"""Calls written as the interface lays them out, and what a line of them answers."""

from darkboard.mines import answers

LOWEST = -2147483648
HIGHEST = 2147483647


def begin():
    return [0]


def board(width, height, mines):
    return [1, width, height, mines]


def deal(seed, x, y):
    return [2, seed, x, y]


def open_(x, y):
    return [3, x, y]


def flag(x, y):
    return [4, x, y]


def chord(x, y):
    return [5, x, y]


def set_(x, y, n):
    return [6, x, y, n]


def view(most):
    return [7, most]


def layouts():
    return [8]


def chance(x, y):
    return [9, x, y]


def sure():
    return [10]


def best():
    return [11]


def line_of(calls):
    return [number for call in calls for number in call]


def split(numbers):
    """Part what `answers` gave back into one list for each call."""
    parts = []
    place = 0
    while place < len(numbers):
        behind = place + 1 + numbers[place]
        assert numbers[place] >= 1 and behind <= len(numbers), numbers
        parts.append(numbers[place + 1:behind])
        place = behind
    return parts


def replies(*calls):
    """The first number that each call answers."""
    parts = split(answers(line_of(calls)))
    assert len(parts) == len(calls), (parts, calls)
    return [part[0] for part in parts]


def last(*calls):
    """The number that the last call answers."""
    return replies(*calls)[-1]


def cells(width, height):
    return [(x, y) for y in range(height) for x in range(width)]


def rows(signs, width):
    return ["".join(signs[place:place + width]) for place in range(0, len(signs), width)]


def mines_of(width, height, mines, seed, x, y):
    """Where the mines lie, found by opening each cell of the same deal in turn."""
    start = [begin(), board(width, height, mines), deal(seed, x, y)]
    opened = [last(*start, open_(*cell)) for cell in cells(width, height)]
    return rows(["*" if answer == 2 else "." for answer in opened], width)


def seen(width, height, *calls):
    """What is shown (#), dark (.) or flagged (F) behind these calls, told by what flagging answers."""
    flags = replies(*calls, *[flag(*cell) for cell in cells(width, height)])[len(calls):]
    return rows([{-1: "#", 1: ".", 0: "F"}[answer] for answer in flags], width)
