"""Facts about the values of registers, and states, which have a fact for each register."""

from quietsmith.layouts import GREATEST_WORD, MOST_ADDRESSES
from quietsmith.values import FLOWS, is_integer, joined_flow

REGISTERS = 16
# The index of the flow of the carry in a state.
CARRY = 16

# The cell and the plus of a fact that tells nothing of the memory.
NO_CELL = (-1, 0)

START = (("public", 0, 0, -1, 0),) * 16 + ("public",)


def is_fact(value):
    """Tells whether the value is a fact."""
    if not isinstance(value, tuple) or len(value) != 5:
        return False
    flow, least, greatest, cell, plus = value
    if flow not in FLOWS or not is_integer(greatest, 0, GREATEST_WORD) or not is_integer(least, 0, greatest):
        return False
    if is_integer(cell, -1, -1):
        return is_integer(plus, 0, 0)
    return is_integer(cell, 0, MOST_ADDRESSES - 1) and is_integer(plus, 0, GREATEST_WORD)


def is_state(value):
    """Tells whether the value is a state."""
    if not isinstance(value, tuple) or len(value) != REGISTERS + 1:
        return False
    return all(is_fact(fact) for fact in value[:REGISTERS]) and value[CARRY] in FLOWS


def flow_fits(flow, other):
    """Tells whether a flow fits another one."""
    return flow == "public" or other == "secret"


def fact_fits(fact, other):
    """Tells whether a fact fits another one."""
    if not flow_fits(fact[0], other[0]) or fact[1] < other[1] or fact[2] > other[2]:
        return False
    return other[3] == -1 or fact[3:] == other[3:]


def state_fits(state, other):
    """Tells whether a state fits another one."""
    if not flow_fits(state[CARRY], other[CARRY]):
        return False
    return all(fact_fits(state[reg], other[reg]) for reg in range(REGISTERS))


def fact_union(fact, other):
    """Returns the fact that two facts fit, and that tells as much as one can."""
    flow = joined_flow((fact[0], other[0]))
    cell = fact[3:] if fact[3:] == other[3:] else NO_CELL
    return (flow, min(fact[1], other[1]), max(fact[2], other[2]), *cell)


def union(state, other):
    """Returns the union of two states."""
    facts = [fact_union(state[reg], other[reg]) for reg in range(REGISTERS)]
    return (*facts, joined_flow((state[CARRY], other[CARRY])))
