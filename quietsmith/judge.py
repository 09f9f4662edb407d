"""The judge of machine code."""

from quietsmith.annotate import annotate
from quietsmith.certificates import is_certificate, owners
from quietsmith.errors import BadCode
from quietsmith.facts import START, state_fits
from quietsmith.instructions import targets
from quietsmith.loops import steps_of, turns_of
from quietsmith.transfer import addresses, safe_region
from quietsmith.ways import state_at_target, state_behind

# The parts of an instruction that are registers which everybody can watch.
WATCHED = {"below": (1,), "div": (2, 3), "load": (2,), "store": (2,)}


def states_of(code_file, certificate):
    """Returns the list of the states of all places, with None for a place without a state."""
    return inspected(code_file, certificate).states


def check_code(code_file, certificate):
    """Returns how many steps the code makes at most, and raises BadCode if the certificate does not show it."""
    inspection = inspected(code_file, certificate)
    return steps_of(inspection, turns_of(inspection))


def judge(code_file):
    """Returns how many steps the code makes at most, with a certificate that is made for it."""
    return check_code(code_file, annotate(code_file))


def inspected(code_file, certificate):
    """Returns what is known of the places of a code when all rules for them are kept."""
    if not is_certificate(code_file, certificate):
        raise BadCode(0, "certificate")
    inspection = Inspection(code_file, certificate)
    inspection.look_at_all()
    return inspection


class Inspection:
    """The places of a code with their states."""

    def __init__(self, code_file, certificate):
        self.regions, self.code = code_file
        routines, notes = certificate
        self.firsts = [first for first, _, _ in routines]
        self.levels = {first: level for first, level, _ in routines}
        self.exits = {first: leaving for first, _, leaving in routines}
        self.owners = owners(self.firsts, len(self.code))
        self.notes = {place: state for place, state in notes}
        self.states = []

    def look_at_all(self):
        """Finds the state of each place, and looks whether the rules are kept there."""
        if 0 not in self.notes or not state_fits(START, self.notes[0]):
            raise BadCode(0, "note")
        coming = None
        for place, instruction in enumerate(self.code):
            state = self.notes.get(place, coming)
            self.states.append(state)
            if state is not None:
                self.check_registers(place, state, instruction)
                self.check_memory(place, state, instruction)
                self.check_target(place, state, instruction)
                coming = self.state_of_next(place, state, instruction)

    def check_registers(self, place, state, instruction):
        """Looks at the registers that everybody can watch."""
        for part in WATCHED.get(instruction[0], ()):
            if state[instruction[part]][0] == "secret":
                raise BadCode(place, "flow")

    def check_memory(self, place, state, instruction):
        """Looks at the addresses of a load or a store, and at the word that is stored."""
        if instruction[0] not in ("load", "store"):
            return
        first, last = addresses(state, instruction)
        region = safe_region(self.regions, first, last)
        if region is None:
            raise BadCode(place, "address")
        flow, _, greatest, _, _ = state[instruction[1]]
        if instruction[0] == "store" and flow == "secret" and region[2] == "public":
            raise BadCode(place, "flow")
        if instruction[0] == "store" and greatest > region[3]:
            raise BadCode(place, "range")

    def check_target(self, place, state, instruction):
        """Looks at the place that the instruction names, or at the exit of its routine."""
        name = instruction[0]
        if name == "ret":
            leaving = self.exits[self.owners[place]]
            if leaving is None or not state_fits(state, leaving):
                raise BadCode(place, "note")
        after = state_at_target(state, instruction)
        for target in targets(instruction):
            if after is None:
                continue
            if name == "call":
                self.check_entry(place, target)
            else:
                self.check_stay(place, target)
            if target not in self.notes or not state_fits(after, self.notes[target]):
                raise BadCode(place, "note")

    def check_stay(self, place, following):
        """Looks whether the place to which an instruction goes is one of its routine."""
        if following >= len(self.code):
            raise BadCode(place, "place")
        if self.owners[following] != self.owners[place]:
            raise BadCode(place, "routine")

    def check_entry(self, place, first):
        """Looks whether a routine that can be called from the place begins at `first`."""
        if first >= len(self.code):
            raise BadCode(place, "place")
        if first not in self.levels:
            raise BadCode(place, "routine")
        if self.levels[first] >= self.levels[self.owners[place]]:
            raise BadCode(place, "level")

    def state_of_next(self, place, state, instruction):
        """Returns the state with which the instruction goes on, if it does, and looks at the next place."""
        after = state_behind(self.regions, state, instruction, self.exits)
        if after is None:
            return None
        following = place + 1
        self.check_stay(place, following)
        if following in self.notes and not state_fits(after, self.notes[following]):
            raise BadCode(place, "note")
        return after
