"""What the steps of the machine cost: cycles, the cache and the predictor."""

# The cycles of the instructions that have another number of them than 1.
CYCLES = {"mul": 4, "high": 4, "downby": 2, "div": 2, "jump": 2, "call": 2, "ret": 2}

LINES = 8
BLOCK_SIZE = 4
HIT = 1
MISS = 6
COUNTERS = 16
STRONGEST = 3


def base_cycles(name):
    """Returns the cycles of an instruction without those of the cache, the predictor and the digits."""
    return CYCLES.get(name, 1)


class Cache:
    """The blocks of the memory that were accessed last."""

    def __init__(self):
        self.blocks = [-1] * LINES

    def access(self, address):
        """Accesses an address, and returns the cycles of this."""
        number = address // BLOCK_SIZE
        line = number % LINES
        if self.blocks[line] == number:
            return HIT
        self.blocks[line] = number
        return MISS

    def lines(self):
        """Returns the numbers of the blocks that the lines hold, -1 for none."""
        return list(self.blocks)


class Predictor:
    """The counters that predict jumps."""

    def __init__(self):
        self.marks = [1] * COUNTERS

    def branch(self, place, jumps):
        """Learns whether there is a jump at the place, and tells whether it was predicted so."""
        which = place % COUNTERS
        mark = self.marks[which]
        self.marks[which] = min(mark + 1, STRONGEST) if jumps else max(mark - 1, 0)
        return (mark >= 2) == jumps

    def counters(self):
        """Returns the counters."""
        return list(self.marks)
