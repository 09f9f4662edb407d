"""The loops of a code that keeps the rules for its places, and the number of its steps."""

from quietsmith.errors import BadCode
from quietsmith.expressions import mask
from quietsmith.facts import REGISTERS
from quietsmith.instructions import given_register
from quietsmith.layouts import GREATEST_WORD, MOST_ADDRESSES, region_at
from quietsmith.transfer import addresses
from quietsmith.ways import state_at_target


def turns_of(inspection):
    """Returns a dict from the last places of the loops to their turns, and raises BadCode for a wrong loop."""
    search = LoopSearch(inspection)
    for place, state in enumerate(inspection.states):
        if state is not None:
            search.pass_place(place, state)
    return search.turns


def steps_of(inspection, turns):
    """Returns the greatest number of steps of the first routine, if its loops have these turns."""
    firsts = inspection.firsts
    ends = {first: end for first, end in zip(firsts, firsts[1:] + [len(inspection.code)])}
    totals = {}
    for first in by_level(inspection):
        totals[first] = steps_of_routine(inspection, turns, totals, first, ends[first])
    return totals[0]


def steps_of_routine(inspection, turns, totals, first, end):
    """Returns the greatest number of steps of a routine; those that it calls have these totals."""
    pieces = []
    for place in range(first, end):
        if inspection.states[place] is None:
            continue
        instruction = inspection.code[place]
        steps = 1 + (totals[instruction[1]] if instruction[0] == "call" else 0)
        start = place
        if place in turns:
            start = instruction[-1]
            while len(pieces) > 0 and pieces[-1][0] >= start:
                steps += pieces.pop()[1]
            steps *= turns[place] + 1
        pieces.append((start, steps))
    return sum([steps for _, steps in pieces])


def by_level(inspection):
    """Returns the list of the first places of the routines, in which each one stands behind those that it calls."""
    ranked = sorted([(inspection.levels[first], first) for first in inspection.firsts])
    return [first for _, first in ranked]


def cells_of_routines(inspection):
    """Returns a dict from routines to the cells that they can store, also by calls: a bit for each address."""
    cells = {first: 0 for first in inspection.firsts}
    calls = {first: {} for first in inspection.firsts}
    for place, state in enumerate(inspection.states):
        if state is None:
            continue
        instruction = inspection.code[place]
        owner = inspection.owners[place]
        if instruction[0] == "call":
            calls[owner][instruction[1]] = True
        elif instruction[0] == "store":
            least, greatest = addresses(state, instruction)
            cells[owner] |= mask(greatest - least + 1) << least
    for first in by_level(inspection):
        for callee in calls[first]:
            cells[first] |= cells[callee]
    return cells


class LoopSearch:
    """Passes the places in ascending order, and remembers what the loops that end behind them ask for."""

    def __init__(self, inspection):
        self.inspection = inspection
        self.cells = cells_of_routines(inspection)
        self.turns = {}
        # The last place at which a register got a value, or an address could get one.
        self.given = [-1] * REGISTERS
        self.stores = [-1] * MOST_ADDRESSES
        # The same for what the place passed last has changed, but without this place.
        self.former = -1
        # The calls and loops that lie in no other loop so far: first place, last place,
        # the cells that are stored by calls there, and whether there is a call.
        self.pieces = []

    def pass_place(self, place, state):
        """Goes behind a place with a state."""
        instruction = self.inspection.code[place]
        name = instruction[0]
        if name in ("jump", "below"):
            if instruction[-1] <= place and state_at_target(state, instruction) is not None:
                self.add_loop(instruction[-1], place)
        elif name == "call":
            self.pieces.append((place, place, self.cells[instruction[1]], True))
        elif name == "store":
            least, greatest = addresses(state, instruction)
            self.former = self.stores[least]
            self.stores[least:greatest + 1] = [place] * (greatest - least + 1)
        elif given_register(instruction) >= 0:
            self.former = self.given[instruction[1]]
            self.given[instruction[1]] = place

    def add_loop(self, start, last):
        """Adds a loop with these places."""
        cells = 0
        calls = False
        while len(self.pieces) > 0 and self.pieces[-1][1] >= start:
            first, _, stored, called = self.pieces.pop()
            if first < start:
                raise BadCode(last, "loop")
            cells |= stored
            calls = calls or called
        self.pieces.append((start, last, cells, calls))
        turns = -1
        # Without a note, the state comes from the place before, which was passed last.
        if last - 1 >= start and last not in self.inspection.notes and self.former < start:
            turns = self.turns_by(last, cells, calls)
        if turns < 0:
            raise BadCode(last, "loop")
        self.turns[last] = turns

    def turns_by(self, last, cells, calls):
        """Returns the turns of the loop that ends at this place, or -1 if it has no counter."""
        count = self.inspection.code[last - 1]
        state = self.inspection.states[last - 1]
        if count[0] == "store":
            return self.turns_in_memory(count, state, cells)
        if count[0] == "add" and not calls:
            return turns_in_register(count, state, self.inspection.code[last])
        return -1

    def turns_in_memory(self, count, state, cells):
        """Returns the turns by a counter in memory, or -1; the calls in the loop can store these cells."""
        least, greatest = addresses(state, count)
        _, _, _, cell, plus = state[count[1]]
        if least != greatest or cell != least or plus < 1 or (cells >> least) & 1 == 1:
            return -1
        layout = self.inspection.regions
        return layout[region_at(layout, least)][3]


def turns_in_register(count, state, back):
    """Returns the turns by a counter in a register, or -1; `back` is the jump back."""
    _, reg, first, second = count
    if first == second or reg not in (first, second):
        return -1
    _, least, greatest, _, _ = state[second if reg == first else first]
    total = state[reg][2] + greatest
    if least != greatest or least < 1 or total > GREATEST_WORD:
        return -1
    if back[0] == "below" and back[1] == reg:
        return back[2] - 1
    return total
