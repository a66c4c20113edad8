"""Numbers by chance: the same seed gives the same row of them."""

MASK = 0xFFFFFFFFFFFFFFFF
STEP = 0x9E3779B97F4A7C15
FIRST_FACTOR = 0xBF58476D1CE4E5B9
SECOND_FACTOR = 0x94D049BB133111EB


class Chance:
    def __init__(self, seed):
        self.state = seed

    def draw(self):
        self.state = (self.state + STEP) & MASK
        return mixed(self.state)


def mixed(state):
    first = ((state ^ (state >> 30)) * FIRST_FACTOR) & MASK
    second = ((first ^ (first >> 27)) * SECOND_FACTOR) & MASK
    return second ^ (second >> 31)
