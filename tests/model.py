"""The program once more, straight from the document's words and as slow as it likes, to hold it against."""

from fractions import Fraction
from itertools import combinations
from math import comb

WORD = 2 ** 64


def chance(seed):
    while True:
        seed = (seed + 0x9E3779B97F4A7C15) % WORD
        z = seed
        y = (z ^ z // 2 ** 30) * 0xBF58476D1CE4E5B9 % WORD
        x = (y ^ y // 2 ** 27) * 0x94D049BB133111EB % WORD
        yield x ^ x // 2 ** 31


def touch(a, b):
    return a != b and abs(a[0] - b[0]) <= 1 and abs(a[1] - b[1]) <= 1


def bytes_of(number):
    return list(number.to_bytes(32, "little"))


def plain_count(around, shown, mines):
    """How many layouts there are, and in how many each dark cell is mined, by trying every set of dark cells."""
    dark = [cell for cell in around if cell not in shown]
    total, mined = 0, dict.fromkeys(dark, 0)
    for chosen in combinations(dark, mines):
        if all(len(around[cell].intersection(chosen)) == number for cell, number in shown.items()):
            total += 1
            for cell in chosen:
                mined[cell] += 1
    return total, mined


def searched_count(around, shown, mines):
    """The same by trying the edge alone, cell by cell, on boards that have too many sets of dark cells."""
    dark = [cell for cell in around if cell not in shown]
    edge = [cell for cell in dark if around[cell] & set(shown)]
    rest = len(dark) - len(edge)
    numbers = [(around[cell], number) for cell, number in shown.items()]
    found = []

    def go_on(chosen, place):
        undecided = set(edge[place:])
        counts = [(len(near & chosen), len(near & undecided), number) for near, number in numbers]
        if not all(mined <= number <= mined + open_ for mined, open_, number in counts):
            return
        if place == len(edge):
            found.append(chosen)
            return
        go_on(chosen, place + 1)
        go_on(chosen | {edge[place]}, place + 1)

    go_on(frozenset(), 0)
    found = [(chosen, mines - len(chosen)) for chosen in found if 0 <= mines - len(chosen) <= rest]
    total = sum(comb(rest, left) for chosen, left in found)
    off_edge = sum(comb(rest, left) * left // rest for chosen, left in found) if rest else 0
    mined = {cell: sum(comb(rest, left) for chosen, left in found if cell in chosen) for cell in edge}
    return total, {cell: mined.get(cell, off_edge) for cell in dark}


class Model:
    def __init__(self, count=plain_count):
        self.cells = None
        self.count = count

    def answer(self, kind, numbers):
        """All the numbers that a call answers."""
        answer = getattr(self, kind)(*numbers)
        return answer if isinstance(answer, list) else [answer]

    def begin(self):
        self.cells = None
        return 0

    def board(self, width, height, mines):
        if width not in range(1, 17) or height not in range(1, 17) or mines not in range(1, width * height):
            return -1
        self.cells = [(x, y) for y in range(height) for x in range(width)]
        self.around = {cell: {other for other in self.cells if touch(cell, other)} for cell in self.cells}
        self.mines = mines
        self.shown, self.flags, self.mined = {}, set(), None
        self.over = self.lost = False
        self.counts = {}
        return 0

    def refused(self, cell, needs_play):
        if self.cells is None:
            return -4
        if cell not in self.cells:
            return -1
        if needs_play and (self.mined is None or self.over):
            return -2
        return 0

    def deal(self, seed, x, y):
        if self.refused((x, y), False):
            return self.refused((x, y), False)
        if self.mined is not None or self.shown:
            return -1
        row = [cell for cell in self.cells if cell != (x, y)]
        numbers = chance(seed)
        for i in range(self.mines):
            r = next(numbers) % len(row[i:])
            row[i], row[i + r] = row[i + r], row[i]
        self.mined = set(row[:self.mines])
        self.flags = set()
        return self.uncover({(x, y)})

    def open(self, x, y):
        return self.refused((x, y), True) or self.uncover({(x, y)})

    def flag(self, x, y):
        if self.refused((x, y), True):
            return self.refused((x, y), True)
        if (x, y) in self.shown:
            return -1
        self.flags ^= {(x, y)}
        return int((x, y) in self.flags)

    def chord(self, x, y):
        if self.refused((x, y), True):
            return self.refused((x, y), True)
        if self.shown.get((x, y)) == len(self.around[x, y] & self.flags):
            return self.uncover(self.around[x, y])
        return 0

    def uncover(self, cells):
        wave = cells - set(self.shown) - self.flags
        if not wave:
            return 0
        if wave & self.mined:
            self.over = self.lost = True
            return 2
        while wave:
            self.shown.update({cell: len(self.around[cell] & self.mined) for cell in wave})
            zeros = [cell for cell in wave if self.shown[cell] == 0]
            wave = {cell for zero in zeros for cell in self.around[zero]} - set(self.shown) - self.flags
        self.over = len(self.cells) - len(self.shown) == self.mines
        return 3 if self.over else 1

    def set(self, x, y, n):
        if self.refused((x, y), False):
            return self.refused((x, y), False)
        if n not in range(10) or self.mined is not None:
            return -1
        self.shown.pop((x, y), None)
        if n != 9:
            self.shown[x, y] = n
        return 0

    def view(self, most):
        if self.cells is None:
            return -4
        if len(self.cells) > (most if most in range(1, 65537) else 0):
            return -2
        return [len(self.cells)] + [self.seen(cell) for cell in self.cells]

    def seen(self, cell):
        if cell in self.shown:
            return self.shown[cell]
        if self.lost and cell in self.mined:
            return 11
        return 10 if cell in self.flags else 9

    def dark(self):
        return [cell for cell in self.cells if cell not in self.shown]

    def edge(self):
        return [cell for cell in self.dark() if any(touch(cell, other) for other in self.shown)]

    def weighed(self):
        key = frozenset(self.shown.items())
        if key not in self.counts:
            self.counts[key] = self.count(self.around, self.shown, self.mines)
        return self.counts[key]

    def layouts(self):
        if self.cells is None:
            return -4
        if len(self.edge()) > 24:
            return -3
        return [0] + bytes_of(self.weighed()[0])

    def cannot_be_weighed(self):
        if self.cells is None:
            return -4
        if len(self.edge()) > 24:
            return -3
        return 0 if self.weighed()[0] else -2

    def chance(self, x, y):
        refusal = self.refused((x, y), False) or self.cannot_be_weighed()
        if refusal:
            return refusal
        if (x, y) in self.shown:
            return -1
        total, mined = self.weighed()
        fraction = Fraction(mined[x, y], total)
        return [0] + bytes_of(fraction.numerator) + bytes_of(fraction.denominator)

    def sure(self):
        if self.cannot_be_weighed():
            return self.cannot_be_weighed()
        total, mined = self.weighed()
        places = {cell: place for place, cell in enumerate(self.cells)}
        none = [places[cell] for cell in mined if mined[cell] == 0]
        each = [places[cell] for cell in mined if mined[cell] == total]
        bits = [bytes_of(sum(2 ** place for place in cells)) for cells in (none, each)]
        return [len(none) + len(each)] + bits[0] + bits[1]

    def best(self):
        if self.cannot_be_weighed():
            return self.cannot_be_weighed()
        mined = self.weighed()[1]
        return [0] + list(next(cell for cell in self.cells if mined.get(cell) == min(mined.values())))
