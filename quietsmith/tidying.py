"""Makes code shorter."""

from quietsmith.instructions import GOES_AWAY, given_register, targets
from quietsmith.reaching import reachable


def tidy(code_file):
    """Returns a code file that does the same with fewer instructions, or the one that was given."""
    layout, code = code_file
    shorter = linked(without_known_words(threaded(code)))
    if shorter is not None:
        shorter = linked(without_idle_places(shorter))
    return code_file if shorter is None else (layout, shorter)


def threaded(code):
    """Returns the code in which no jump ahead goes to another jump ahead."""
    changed = list(code)
    # From the last place on, all jumps behind a place go to their last places already.
    for place in range(len(code) - 1, -1, -1):
        instruction = code[place]
        if instruction[0] in ("jump", "below") and place < instruction[-1] < len(code):
            following = changed[instruction[-1]]
            if following[0] == "jump" and following[1] > instruction[-1]:
                changed[place] = (*instruction[:-1], following[1])
    return changed


def linked(kept):
    """Returns the code of the instructions that are not None, with their new places.

    It returns None if there is no instruction, or if one names a place behind the last one.
    """
    fresh = []
    count = 0
    for instruction in kept:
        fresh.append(count)
        if instruction is not None:
            count += 1
    code = []
    for instruction in kept:
        if instruction is None:
            continue
        named = targets(instruction)
        if len(named) > 0:
            if named[0] >= len(kept) or fresh[named[0]] == count:
                return None
            instruction = (*instruction[:-1], fresh[named[0]])
        code.append(instruction)
    return tuple(code) if count > 0 else None


def without_known_words(code):
    """Returns the instructions, with None for those that give a register the word that it has already."""
    begins = [False] * (len(code) + 1)
    for place, instruction in enumerate(code):
        for target in targets(instruction):
            if target < len(code):
                begins[target] = True
        if instruction[0] in GOES_AWAY or len(targets(instruction)) > 0:
            begins[place + 1] = True
    kept = []
    block = KnownWords()
    for place, instruction in enumerate(code):
        if begins[place]:
            block = KnownWords()
        kept.append(block.passed_by(instruction))
    return kept


class KnownWords:
    """What is known of the registers within a block."""

    def __init__(self):
        # For a register the word that it has, or the memory place (a register and a number) whose word it has.
        self.by_set = {}
        self.by_load = {}

    def passed_by(self, instruction):
        """Goes behind an instruction, and returns what is left of it: None if it is left out."""
        name = instruction[0]
        if name == "store":
            self.end_places(instruction)
            return instruction
        given = given_register(instruction)
        if given < 0:
            return instruction
        if name == "load":
            return self.passed_by_load(instruction)
        if name == "set" and self.by_set.get(given) == instruction[2]:
            return None
        self.end_register(given)
        if name == "set":
            self.by_set[given] = instruction[2]
        return instruction

    def passed_by_load(self, instruction):
        """Goes behind a load, and returns what is left of it."""
        _, given, base, offset = instruction
        holders = [reg for reg in self.by_load if self.by_load[reg] == (base, offset)]
        if given in holders:
            return None
        self.end_register(given)
        if given != base:
            self.by_load[given] = (base, offset)
        if len(holders) > 0:
            return ("move", given, min(holders))
        return instruction

    def end_register(self, given):
        """Ends what is known of a register, and of the memory places that are named by it."""
        if given in self.by_set:
            del self.by_set[given]
        self.by_load = {reg: place for reg, place in self.by_load.items() if given not in (reg, place[0])}

    def end_places(self, instruction):
        """Ends what is known of the memory places to which a store can give another word."""
        _, _, base, offset = instruction
        self.by_load = {
            reg: place for reg, place in self.by_load.items() if place[0] == base and place[1] != offset
        }


def without_idle_places(code):
    """Returns the instructions, with None for those that are not reached, and for jumps that pass nothing."""
    reached = reachable(code)
    kept = [instruction if reached[place] else None for place, instruction in enumerate(code)]
    # The first place behind the present one that is still there.
    following = len(code)
    for place in range(len(code) - 1, -1, -1):
        instruction = kept[place]
        if instruction is not None and instruction[0] == "jump" and place < instruction[1] <= following:
            kept[place] = None
        elif instruction is not None:
            following = place
    return kept
