"""Makes certificates."""

from heapq import heappop, heappush

from quietsmith.certificates import TOP_LEVEL, owners
from quietsmith.facts import CARRY, REGISTERS, START, fact_fits, fact_union, flow_fits
from quietsmith.instructions import targets
from quietsmith.layouts import GREATEST_WORD
from quietsmith.reaching import reachable
from quietsmith.stretches import Stretches
from quietsmith.ways import state_at_target, state_behind


def annotate(code_file):
    """Returns a certificate of a code file."""
    work = Annotation(code_file)
    work.complete()
    levels = levels_of(work)
    routines = [(first, levels[first], work.exits.get(first)) for first in work.firsts]
    notes = [(place, work.notes[place]) for place in sorted(work.notes)]
    return (tuple(routines), tuple(notes))


def numbers_of(code_file):
    """Returns the list of the numbers of a code file, in ascending order."""
    layout, code = code_file
    numbers = {0: True, GREATEST_WORD: True}
    for region in layout:
        numbers[region[3]] = True
    for instruction, reached in zip(code, reachable(code)):
        if reached and instruction[0] in ("set", "below"):
            word = instruction[2]
            numbers[word] = True
            if instruction[0] == "below" and word > 0:
                numbers[word - 1] = True
    return sorted(numbers)


def places_named(code, names):
    """Returns the list of 0 and the places of the code that the instructions with these names name."""
    places = {0: True}
    for instruction in code:
        if instruction[0] in names:
            for place in targets(instruction):
                places[place] = True
    return [place for place in sorted(places) if place < len(code)]


class Annotation:
    """The notes and exits of a code file, which grow until nothing is missing."""

    def __init__(self, code_file):
        self.regions, self.code = code_file
        self.firsts = places_named(self.code, ("call",))
        self.owners = owners(self.firsts, len(self.code))
        self.notable = {place: True for place in places_named(self.code, ("jump", "below", "call"))}
        numbers = numbers_of(code_file)
        # For each word the greatest number that is not above it, and the least one that is not below.
        self.floors = []
        self.ceilings = []
        for number, following in zip(numbers, numbers[1:] + [GREATEST_WORD + 1]):
            self.floors.extend([number] * (following - number))
            self.ceilings.extend([number] * (number + 1 - len(self.ceilings)))
        self.stretches = Stretches(self.regions, self.code, self.notable)
        self.notes = {}
        self.exits = {}
        self.callers = {first: {} for first in self.firsts}
        self.queue = []
        self.queued = {}
        self.walked = {}

    def complete(self):
        """Makes all notes and exits."""
        self.reach_note(0, START)
        while len(self.queue) > 0:
            _, place = heappop(self.queue)
            del self.queued[place]
            self.walked[place] = True
            self.walk(place)

    def queue_up(self, place):
        """Makes sure that the way from a place on is walked once more."""
        if place not in self.queued:
            self.queued[place] = True
            # New ways come first: they can change what many old ones begin with.
            heappush(self.queue, (1 if place in self.walked else 0, place))

    def walk(self, place):
        """Goes from a place that can have a note, or is behind a call, up to the next such place."""
        state = self.notes[place] if place in self.notable else self.exits[self.code[place - 1][1]]
        while state is not None and place < len(self.code):
            end = self.stretches.ends[place]
            if end > place:
                state = self.stretches.state_at_end(place, state)
                place = end
            else:
                instruction = self.code[place]
                self.leave(place, state, instruction)
                if instruction[0] == "call":
                    return
                state = state_behind(self.regions, state, instruction, self.exits)
                place += 1
            if place in self.notable and state is not None:
                self.reach_note(place, state)
                return

    def leave(self, place, state, instruction):
        """Goes with a state to the place that an instruction names, or to the exit of its routine."""
        if instruction[0] == "ret":
            self.reach_exit(self.owners[place], state)
        for target in targets(instruction):
            after = state_at_target(state, instruction)
            if target < len(self.code) and after is not None:
                self.reach_note(target, after)
                if instruction[0] == "call":
                    self.add_caller(target, place)

    def add_caller(self, first, place):
        """Remembers that a routine is called from a place that has a state."""
        if place not in self.callers[first]:
            self.callers[first][place] = True
            if first in self.exits:
                self.come_back(place + 1, self.exits[first])

    def come_back(self, place, state):
        """Goes to a place behind a call with the exit of the routine."""
        if place in self.notable:
            self.reach_note(place, state)
        elif place < len(self.code):
            self.queue_up(place)

    def reach_note(self, place, state):
        """Makes the state fit the note of the place."""
        wider = self.widened(self.notes.get(place), state)
        if wider is not None:
            self.notes[place] = wider
            self.queue_up(place)

    def reach_exit(self, first, state):
        """Makes the state fit the exit of the routine."""
        wider = self.widened(self.exits.get(first), state)
        if wider is None:
            return
        self.exits[first] = wider
        for caller in self.callers[first]:
            self.come_back(caller + 1, wider)

    def widened(self, known, state):
        """Returns the least round state that fits both; None if this is the known one, which is round."""
        if known is None:
            facts = [self.rounded(fact) for fact in state[:REGISTERS]]
            return (*facts, state[CARRY])
        facts = list(known)
        changed = False
        for reg in range(REGISTERS):
            if state[reg] != known[reg] and not fact_fits(state[reg], known[reg]):
                facts[reg] = self.rounded(fact_union(known[reg], state[reg]))
                changed = True
        if not flow_fits(state[CARRY], known[CARRY]):
            facts[CARRY] = state[CARRY]
            changed = True
        return tuple(facts) if changed else None

    def rounded(self, fact):
        """Returns the least round fact that a fact fits."""
        flow, least, greatest, cell, plus = fact
        return (flow, self.floors[least], self.ceilings[greatest], cell, plus)


def levels_of(work):
    """Returns a dict from the first places of the routines to their levels."""
    calls = {first: {} for first in work.firsts}
    for first in work.firsts:
        for caller in work.callers[first]:
            calls[work.owners[caller]][first] = True
    levels = {first: 0 for first in work.firsts}
    # Each round finds the levels up to a number; in a circle they grow with each round.
    for _ in range(TOP_LEVEL):
        higher = {}
        for first in work.firsts:
            most = max([levels[callee] for callee in calls[first]], default=-1)
            higher[first] = min(most + 1, TOP_LEVEL)
        levels = higher
    return levels
