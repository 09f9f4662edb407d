"""Stretches: rows of instructions that only go on from one to the next.

States pass a stretch again and again while notes grow, most often with other facts for a few
registers alone. If a stretch does not name these registers, their facts pass it as they are.
"""

from quietsmith.facts import CARRY, REGISTERS
from quietsmith.instructions import GOES_AWAY, NUMBERS, targets
from quietsmith.transfer import next_state

# A short stretch names few registers.
LONGEST = 32
# The names of the instructions that read or change the carry.
CARRY_NAMES = ("add", "addc", "sub", "subc", "carry", "clear")


def only_goes_on(instruction):
    """Tells whether an instruction always goes to the next place and to no other one."""
    return instruction[0] not in GOES_AWAY and len(targets(instruction)) == 0


def ends_of(code, starts):
    """Returns for each place the end of the stretch that begins there: the place itself if there is none.

    A stretch begins at each place of `starts` that has an instruction which only goes on.
    """
    ends = list(range(len(code)))
    start = 0
    for place, instruction in enumerate(code):
        if place in starts or place - start == LONGEST:
            start = place
        if only_goes_on(instruction):
            ends[start] = place + 1
        else:
            start = place + 1
    return ends


class Stretches:
    """The stretches of a code, with the states that passed them last."""

    def __init__(self, layout, code, starts):
        self.regions = layout
        self.code = code
        self.ends = ends_of(code, starts)
        self.passed = {}
        self.named = {}

    def state_at_end(self, place, state):
        """Returns the state behind the stretch that begins at the place, which has this state."""
        after = self.carried(place, state)
        if after is None:
            after = state
            for instruction in self.code[place:self.ends[place]]:
                after = next_state(self.regions, after, instruction)
        self.passed[place] = (state, after)
        return after

    def carried(self, place, state):
        """Returns the state behind the stretch if the one before shows it, and None otherwise."""
        if place not in self.passed:
            return None
        before, after = self.passed[place]
        facts = list(after)
        named = self.names_in(place)
        for index in range(REGISTERS + 1):
            if state[index] != before[index]:
                # A store in the stretch could end what a fact tells of the memory.
                if index in named or index < CARRY and state[index][3] != -1:
                    return None
                facts[index] = state[index]
        return tuple(facts)

    def names_in(self, place):
        """Returns a dict of the registers that a stretch names, and of the index of the carry."""
        if place not in self.named:
            named = {}
            for instruction in self.code[place:self.ends[place]]:
                for kind, number in zip(NUMBERS[instruction[0]], instruction[1:]):
                    if kind == "r":
                        named[number] = True
                if instruction[0] in CARRY_NAMES:
                    named[CARRY] = True
            self.named[place] = named
        return self.named[place]
