"""What an instruction does to a state."""

from quietsmith.expressions import mask
from quietsmith.facts import CARRY, NO_CELL, REGISTERS
from quietsmith.instructions import given_register
from quietsmith.layouts import GREATEST_WORD, region_at, region_end
from quietsmith.values import joined_flow
from quietsmith.words import CARRYING, CHAINED, SHIFTS, WORD


def addresses(state, instruction):
    """Returns the least and the greatest address of a load or a store in a state."""
    _, least, greatest, _, _ = state[instruction[2]]
    offset = instruction[3]
    return (least + offset, greatest + offset)


def safe_region(layout, least, greatest):
    """Returns the region that has all addresses from the least to the greatest one, or None."""
    index = region_at(layout, least)
    if index == -1 or greatest >= region_end(layout[index]):
        return None
    return layout[index]


def next_state(layout, state, instruction):
    """Returns the state after an instruction."""
    name = instruction[0]
    given = given_register(instruction)
    if given >= 0:
        fact = result_fact(layout, state, instruction)
        carry = fact[0] if name in CARRYING else state[CARRY]
        return (*state[:given], fact, *state[given + 1:CARRY], carry)
    if name == "clear":
        return (*state[:CARRY], "public")
    if name == "store":
        least, greatest = addresses(state, instruction)
        facts = [without_cell(fact) if least <= fact[3] <= greatest else fact for fact in state[:REGISTERS]]
        return (*facts, state[CARRY])
    return state


def without_cell(fact):
    """Returns what a fact tells without the memory."""
    return (*fact[:3], *NO_CELL)


def result_fact(layout, state, instruction):
    """Returns the fact of the register that gets a value."""
    name = instruction[0]
    if name == "set":
        word = instruction[2]
        return ("public", word, word, *NO_CELL)
    if name == "carry":
        return (state[CARRY], 0, 1, *NO_CELL)
    if name == "load":
        least, greatest = addresses(state, instruction)
        return loaded_fact(layout, least, greatest)
    first = state[instruction[2]]
    if name == "move":
        return first
    if name in SHIFTS:
        least, greatest = shifted(name, first[1], first[2], instruction[3])
        return (first[0], least, greatest, *NO_CELL)
    second = state[instruction[3]]
    flows = [first[0], second[0]]
    if name in CHAINED:
        flows.append(state[CARRY])
    least, greatest = operated(name, first, second)
    cell = cell_of_sum(first, second) if name == "add" else NO_CELL
    return (joined_flow(flows), least, greatest, *cell)


def loaded_fact(layout, least, greatest):
    """Returns the fact of a word that is loaded from one of these addresses."""
    region = safe_region(layout, least, greatest)
    if region is None:
        return ("secret", 0, GREATEST_WORD, *NO_CELL)
    _, _, flow, most = region
    if least == greatest:
        return (flow, 0, most, least, 0)
    return (flow, 0, most, *NO_CELL)


def cell_of_sum(first, second):
    """Returns the cell and the plus of the sum of two registers with these facts."""
    _, least, greatest, _, _ = second
    _, _, most, cell, plus = first
    if cell == -1 or least != greatest or most + greatest > GREATEST_WORD or plus + least > GREATEST_WORD:
        return NO_CELL
    return (cell, plus + least)


def as_words(least, greatest):
    """Returns the bounds of a result, which are those of all words if the result need not be one."""
    if least < 0 or greatest > GREATEST_WORD:
        return (0, GREATEST_WORD)
    return (least, greatest)


def shifted(name, least, greatest, count):
    """Returns the bounds of a register that is shifted."""
    if name == "down":
        return (least >> count, greatest >> count)
    return as_words(least << count, greatest << count)


def operated(name, first, second):
    """Returns the bounds of the result of an operation on registers with these facts."""
    _, low, high, _, _ = first
    _, least, greatest, _, _ = second
    if name in CARRYING:
        # The carry that is read is 0 or 1.
        more = 1 if name in CHAINED else 0
        if name in ("add", "addc"):
            return as_words(low + least, high + greatest + more)
        return as_words(low - greatest - more, high - least)
    if name == "mul":
        return as_words(low * least, high * greatest)
    if name == "high":
        return (low * least // WORD, high * greatest // WORD)
    if name == "div":
        return (low // greatest, high // least) if least >= 1 else (0, GREATEST_WORD)
    return (0, top_of_bits(name, high, greatest))


def top_of_bits(name, high, greatest):
    """Returns the greatest value of an operation whose least one is 0, for registers with these greatest ones."""
    if name == "and":
        return min(high, greatest)
    if name in ("or", "xor"):
        return mask(max(high, greatest).bit_length())
    if name == "less":
        return 1
    return high
