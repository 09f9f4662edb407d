"""The states with which an instruction goes to other places.

The exits are a dict from the first places of routines to their exits.
"""

from quietsmith.instructions import GOES_AWAY
from quietsmith.transfer import next_state


def state_at_target(state, instruction):
    """Returns the state with which an instruction goes to the place that it names, or None if it does not."""
    if instruction[0] != "below":
        return state
    _, reg, word, _ = instruction
    _, least, greatest, _, _ = state[reg]
    if least >= word:
        return None
    return narrowed(state, reg, least, min(greatest, word - 1))


def state_behind(layout, state, instruction, exits):
    """Returns the state with which an instruction goes on to the next place, or None if it does not."""
    name = instruction[0]
    if name in GOES_AWAY:
        return None
    if name == "call":
        return exits.get(instruction[1])
    if name == "below":
        _, reg, word, _ = instruction
        _, least, greatest, _, _ = state[reg]
        return narrowed(state, reg, max(least, word), greatest) if greatest >= word else None
    return next_state(layout, state, instruction)


def narrowed(state, reg, least, greatest):
    """Returns the state in which a register has other bounds."""
    flow, _, _, cell, plus = state[reg]
    return (*state[:reg], (flow, least, greatest, cell, plus), *state[reg + 1:])
