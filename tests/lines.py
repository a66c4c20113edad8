"""Calls written as the interface lays them out, and what a line of them answers."""

from darkboard.mines import answers

LOWEST = -2147483648
HIGHEST = 2147483647


def begin():
    return [0]


def board(width, height, mines):
    return [1, width, height, mines]


def deal(seed, x, y):
    return [2, seed, x, y]


def open_(x, y):
    return [3, x, y]


def flag(x, y):
    return [4, x, y]


def chord(x, y):
    return [5, x, y]


def set_(x, y, n):
    return [6, x, y, n]


def view(most):
    return [7, most]


def layouts():
    return [8]


def chance(x, y):
    return [9, x, y]


def sure():
    return [10]


def best():
    return [11]


def line_of(calls):
    return [number for call in calls for number in call]


def split(numbers):
    """Part what `answers` gave back into one list for each call."""
    parts = []
    place = 0
    while place < len(numbers):
        behind = place + 1 + numbers[place]
        assert numbers[place] >= 1 and behind <= len(numbers), numbers
        parts.append(numbers[place + 1:behind])
        place = behind
    return parts


def told(*calls):
    """All the numbers that each call answers."""
    parts = split(answers(line_of(calls)))
    assert len(parts) == len(calls), (parts, calls)
    return parts


def last_told(*calls):
    """All the numbers that the last call answers."""
    return told(*calls)[-1]


def replies(*calls):
    """The first number that each call answers."""
    return [part[0] for part in told(*calls)]


def last(*calls):
    """The number that the last call answers."""
    return replies(*calls)[-1]


def cells(width, height):
    return [(x, y) for y in range(height) for x in range(width)]


def rows(signs, width):
    return ["".join(signs[place:place + width]) for place in range(0, len(signs), width)]


def mines_of(width, height, mines, seed, x, y):
    """Where the mines lie, found by opening each cell of the same deal in turn."""
    start = [begin(), board(width, height, mines), deal(seed, x, y)]
    opened = [last(*start, open_(*cell)) for cell in cells(width, height)]
    return rows(["*" if answer == 2 else "." for answer in opened], width)


def seen(width, height, *calls):
    """What is shown (#), dark (.) or flagged (F) behind these calls, told by what flagging answers."""
    flags = replies(*calls, *[flag(*cell) for cell in cells(width, height)])[len(calls):]
    return rows([{-1: "#", 1: ".", 0: "F"}[answer] for answer in flags], width)


def set_up(mines, *picture):
    """A board with these rows set: a digit is shown, a point dark."""
    sets = [set_(x, y, int(sign)) for y, row in enumerate(picture) for x, sign in enumerate(row) if sign != "."]
    return [begin(), board(len(picture[0]), len(picture), mines), *sets]


def viewed(width, *calls):
    """What view tells behind these calls: numbers that are shown, dark (.), flagged (F), mined (*)."""
    answer = last_told(*calls, view(256))
    assert len(answer) == answer[0] + 1, answer
    return rows(["012345678.F*"[number] for number in answer[1:]], width)


def number_of(bytes_):
    assert len(bytes_) == 32 and all(0 <= byte <= 255 for byte in bytes_), bytes_
    return int.from_bytes(bytes(bytes_), "little")


def count_of(*calls):
    """How many layouts there are behind these calls."""
    answer = last_told(*calls, layouts())
    assert answer[0] == 0 and len(answer) == 33, answer
    return number_of(answer[1:])


def chance_at(x, y, *calls):
    """The two numbers of the fraction that chance tells of a cell behind these calls."""
    answer = last_told(*calls, chance(x, y))
    assert answer[0] == 0 and len(answer) == 65, answer
    return number_of(answer[1:33]), number_of(answer[33:])


def cells_of(bytes_):
    number = number_of(bytes_)
    return [cell for cell in range(256) if number // 2 ** cell % 2 == 1]


def sure_of(*calls):
    """What sure tells behind these calls: how many, the cells mined in none, the cells mined in all."""
    answer = last_told(*calls, sure())
    assert answer[0] >= 0 and len(answer) == 65, answer
    return answer[0], cells_of(answer[1:33]), cells_of(answer[33:])


def best_of(*calls):
    """The cell that best tells behind these calls."""
    answer = last_told(*calls, best())
    assert answer[0] == 0 and len(answer) == 3, answer
    return tuple(answer[1:])
