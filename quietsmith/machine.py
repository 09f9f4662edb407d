"""The machine."""

from quietsmith.costs import Cache, Predictor, base_cycles
from quietsmith.errors import BadInput, BadRun
from quietsmith.layouts import is_memory, layout_end, region_end
from quietsmith.words import outcome

REGISTERS = 16
DEEPEST_STACK = 16
NO_ADDRESS = -1
WRONG_GUESS = 3
LEAVES = ("jump", "below", "call", "ret", "halt")


def mosts_of(layout):
    """Returns the greatest word of each address, and -1 for an address in no region."""
    mosts = [-1] * layout_end(layout)
    for region in layout:
        start, size, _, most = region
        mosts[start:region_end(region)] = [most] * size
    return mosts


class Machine:
    """A machine with a code and a memory."""

    def __init__(self, code_file, memory):
        layout, code = code_file
        if not is_memory(layout, memory):
            raise BadInput()
        self.code = code
        self.mosts = mosts_of(layout)
        self.cells = list(memory)
        self.words = [0] * REGISTERS
        self.flag = 0
        self.waiting = []
        self.at = 0
        self.clock = 0
        self.over = False
        self.trace = []
        self.cache = Cache()
        self.predictor = Predictor()

    def step(self):
        """Makes one step, and tells whether there was one to make."""
        if self.over:
            return False
        if self.at >= len(self.code):
            raise BadRun("place")
        instruction = self.code[self.at]
        name = instruction[0]
        # Whatever can raise an error stands before the first change.
        if name in ("load", "store"):
            self.move_word(instruction)
        elif name in LEAVES:
            self.leave(instruction)
        elif name == "clear":
            self.flag = 0
            self.show(NO_ADDRESS, base_cycles(name), self.at + 1)
        else:
            self.compute(instruction)
        return True

    def run(self, limit):
        """Makes steps up to the end, but at most so many, and returns how many it made."""
        made = 0
        while made < limit and self.step():
            made += 1
        return made

    def show(self, address, cycles, following):
        """Shows the step at the place, and goes on to the next place."""
        self.clock += cycles
        self.trace.append((self.at, address, self.clock))
        self.at = following

    def compute(self, instruction):
        """Does an instruction that works on registers alone."""
        name = instruction[0]
        word, self.flag = outcome(instruction, self.words, self.flag)
        self.words[instruction[1]] = word
        cycles = base_cycles(name)
        if name == "div":
            cycles += word.bit_length()
        self.show(NO_ADDRESS, cycles, self.at + 1)

    def move_word(self, instruction):
        """Does a load or a store."""
        name, first, second, offset = instruction
        address = self.words[second] + offset
        if address >= len(self.mosts) or self.mosts[address] < 0:
            raise BadRun("address")
        if name == "load":
            self.words[first] = self.cells[address]
        else:
            if self.words[first] > self.mosts[address]:
                raise BadRun("word")
            self.cells[address] = self.words[first]
        self.show(address, base_cycles(name) + self.cache.access(address), self.at + 1)

    def leave(self, instruction):
        """Does an instruction that can name the next place, or end the machine."""
        name = instruction[0]
        cycles = base_cycles(name)
        following = self.at
        if name == "below":
            following = self.place_behind(instruction)
            if not self.predictor.branch(self.at, following != self.at + 1):
                cycles += WRONG_GUESS
        elif name == "jump":
            following = instruction[1]
        elif name == "call":
            if len(self.waiting) >= DEEPEST_STACK:
                raise BadRun("depth")
            self.waiting.append(self.at + 1)
            following = instruction[1]
        elif name == "ret" and len(self.waiting) > 0:
            following = self.waiting.pop()
        else:
            self.over = True
        self.show(NO_ADDRESS, cycles, following)

    def place_behind(self, instruction):
        """Returns the next place behind a `below`."""
        _, first, word, place = instruction
        return place if self.words[first] < word else self.at + 1

    def ended(self):
        """Tells whether the machine has ended."""
        return self.over

    def place(self):
        """Returns the place."""
        return self.at

    def cycles(self):
        """Returns the cycles so far."""
        return self.clock

    def carry(self):
        """Returns the carry."""
        return self.flag

    def registers(self):
        """Returns the words of the registers."""
        return list(self.words)

    def memory(self):
        """Returns the words of the memory."""
        return list(self.cells)

    def stack(self):
        """Returns the places on the stack, the one that was put last at the end."""
        return list(self.waiting)

    def shown(self):
        """Returns what was shown, step by step."""
        return list(self.trace)
