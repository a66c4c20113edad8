"""The game once more, straight from the document's words and as slow as it likes, to hold the program against."""

WORD = 2 ** 64


def chance(seed):
    while True:
        seed = (seed + 0x9E3779B97F4A7C15) % WORD
        z = seed
        y = (z ^ z // 2 ** 30) * 0xBF58476D1CE4E5B9 % WORD
        x = (y ^ y // 2 ** 27) * 0x94D049BB133111EB % WORD
        yield x ^ x // 2 ** 31


def touch(a, b):
    return a != b and abs(a[0] - b[0]) <= 1 and abs(a[1] - b[1]) <= 1


class Model:
    def __init__(self):
        self.cells = None

    def begin(self):
        self.cells = None
        return 0

    def board(self, width, height, mines):
        if width not in range(1, 17) or height not in range(1, 17) or mines not in range(1, width * height):
            return -1
        self.cells = [(x, y) for y in range(height) for x in range(width)]
        self.mines = mines
        self.shown, self.flags, self.mined = {}, set(), None
        self.over = False
        return 0

    def refused(self, cell, needs_play):
        if self.cells is None:
            return -4
        if cell not in self.cells:
            return -1
        if needs_play and (self.mined is None or self.over):
            return -2
        return 0

    def deal(self, seed, x, y):
        if self.refused((x, y), False):
            return self.refused((x, y), False)
        if self.mined is not None or self.shown:
            return -1
        row = [cell for cell in self.cells if cell != (x, y)]
        numbers = chance(seed)
        for i in range(self.mines):
            r = next(numbers) % len(row[i:])
            row[i], row[i + r] = row[i + r], row[i]
        self.mined = set(row[:self.mines])
        self.flags = set()
        return self.uncover({(x, y)})

    def open(self, x, y):
        return self.refused((x, y), True) or self.uncover({(x, y)})

    def flag(self, x, y):
        if self.refused((x, y), True):
            return self.refused((x, y), True)
        if (x, y) in self.shown:
            return -1
        self.flags ^= {(x, y)}
        return int((x, y) in self.flags)

    def chord(self, x, y):
        if self.refused((x, y), True):
            return self.refused((x, y), True)
        around = {cell for cell in self.cells if touch(cell, (x, y))}
        if self.shown.get((x, y)) == len(around & self.flags):
            return self.uncover(around)
        return 0

    def uncover(self, cells):
        wave = cells - set(self.shown) - self.flags
        if not wave:
            return 0
        if wave & self.mined:
            self.over = True
            return 2
        while wave:
            self.shown.update({cell: sum(touch(cell, mine) for mine in self.mined) for cell in wave})
            zeros = [cell for cell in wave if self.shown[cell] == 0]
            wave = {cell for cell in self.cells for zero in zeros if touch(cell, zero)} - set(self.shown) - self.flags
        self.over = len(self.cells) - len(self.shown) == self.mines
        return 3 if self.over else 1
