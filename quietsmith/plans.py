"""Where the words of a program lie in the memory.

An address is a tuple `(space, offset)` until all code is made: only then it is known how
many words are needed for what is kept meanwhile, and so where the spaces begin.
"""

from quietsmith.errors import BadCode
from quietsmith.layouts import GREATEST_WORD, MOST_ADDRESSES, MOST_REGIONS, layout_end
from quietsmith.limbs import words_of

# The spaces "public" and "secret" hold the variables of this flow, and behind them what is
# kept meanwhile. In the space "turn" the offset is the number of a loop.
PUBLIC = "public"
SECRET = "secret"
TURN = "turn"


def flow_of(address):
    """Returns the flow of the region in which an address will lie."""
    return SECRET if address[0] == SECRET else PUBLIC


class Spot:
    """The words of a variable: those of its items, one item after the other."""

    def __init__(self, space, start, most, size):
        self.space = space
        self.start = start
        self.most = most
        self.size = size
        self.width = words_of(most)

    def address(self, item, word):
        """Returns the address of a word of an item; a single variable is its own item 0."""
        return (self.space, self.start + item * self.width + word)

    def end(self):
        """Returns the offset behind the variable."""
        return self.start + self.width * max(self.size, 1)

    def has(self, address):
        """Tells whether the address lies in the variable."""
        space, offset = address
        return space == self.space and self.start <= offset < self.end()


class Plan:
    """Gives variables, loops and what is kept meanwhile their addresses."""

    def __init__(self):
        self.used = {PUBLIC: 0, SECRET: 0}
        self.spared = {PUBLIC: 0, SECRET: 0}
        self.reached = {PUBLIC: 0, SECRET: 0}
        self.lasts = []

    def spot(self, variable):
        """Returns new words for a variable."""
        _, flow, most, size = variable
        spot = Spot(flow, self.used[flow], most, size)
        self.used[flow] = spot.end()
        return spot

    def behind(self, space):
        """Returns the offset behind the variables so far."""
        return self.used[space]

    def turn(self, last):
        """Returns a new word for the variable of a loop."""
        self.lasts.append(last)
        return Spot(TURN, len(self.lasts) - 1, last, 0)

    def spare(self, space, number):
        """Returns the address of a word for what is kept meanwhile; all variables must have theirs."""
        self.spared[space] = max(self.spared[space], number + 1)
        return (space, self.used[space] + number)

    def reach(self, space, end):
        """Makes sure that a space has so many words."""
        self.reached[space] = max(self.reached[space], end)

    def size_of(self, space):
        """Returns how many words a space has."""
        return max(self.reached[space], self.used[space] + self.spared[space])

    def layout(self):
        """Returns the layout, and refuses one that is too large."""
        parts = [(self.size_of(PUBLIC), PUBLIC, GREATEST_WORD)]
        # The turns of a loop are bounded by the greatest word of the region of its variable.
        parts.extend([(self.lasts.count(last), PUBLIC, last) for last in sorted(set(self.lasts))])
        parts.append((self.size_of(SECRET), SECRET, GREATEST_WORD))
        regions = []
        start = 0
        for size, flow, most in parts:
            if size > 0:
                regions.append((start, size, flow, most))
                start += size
        if layout_end(regions) > MOST_ADDRESSES or len(regions) > MOST_REGIONS:
            raise BadCode(0, "large")
        return tuple(regions)

    def atlas(self):
        """Returns what tells the numbers of the addresses, when all code is made."""
        return Atlas(self.size_of(PUBLIC), self.lasts)


class Atlas:
    """Tells the number of each address, as the layout of the plan has it."""

    def __init__(self, start, lasts):
        ranked = sorted([(last, number) for number, last in enumerate(lasts)])
        self.turns = {number: start + rank for rank, (_, number) in enumerate(ranked)}
        self.starts = {PUBLIC: 0, SECRET: start + len(lasts)}

    def number_at(self, address):
        """Returns the number of an address."""
        space, offset = address
        if space == TURN:
            return self.turns[offset]
        return self.starts[space] + offset
