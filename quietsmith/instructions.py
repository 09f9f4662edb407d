"""The instructions of the machine: their names, their numbers, and the places that they name."""

from quietsmith.values import is_integer

MOST_INSTRUCTIONS = 20000

# A letter for each number that stands behind the name of an instruction: "r" is a register,
# "n" a word, "k" the number of a shift, "d" an address and "p" a place.
NUMBERS = {
    "set": "rn",
    "move": "rr",
    "add": "rrr",
    "addc": "rrr",
    "sub": "rrr",
    "subc": "rrr",
    "mul": "rrr",
    "high": "rrr",
    "div": "rrr",
    "and": "rrr",
    "or": "rrr",
    "xor": "rrr",
    "less": "rrr",
    "downby": "rrr",
    "down": "rrk",
    "up": "rrk",
    "carry": "r",
    "clear": "",
    "load": "rrd",
    "store": "rrd",
    "jump": "p",
    "below": "rnp",
    "call": "p",
    "ret": "",
    "halt": "",
}

# The greatest number for each letter.
GREATEST = {"r": 15, "n": 65535, "k": 15, "d": 4095, "p": 19999}

# The names of the instructions that give no register a value.
GIVES_NOTHING = ("clear", "store", "jump", "below", "call", "ret", "halt")
# The names of those that never go on to the next place.
GOES_AWAY = ("jump", "ret", "halt")


def is_instruction(value):
    """Tells whether the value is an instruction."""
    if not isinstance(value, tuple) or len(value) == 0 or not isinstance(value[0], str):
        return False
    if value[0] not in NUMBERS:
        return False
    kinds = NUMBERS[value[0]]
    if len(value) != len(kinds) + 1:
        return False
    return all(is_integer(number, 0, GREATEST[kind]) for kind, number in zip(kinds, value[1:]))


def is_code(value):
    """Tells whether the value is a code."""
    if not isinstance(value, tuple) or not 1 <= len(value) <= MOST_INSTRUCTIONS:
        return False
    return all(is_instruction(item) for item in value)


def targets(instruction):
    """Returns the list of the places that the instruction names."""
    if NUMBERS[instruction[0]].endswith("p"):
        return [instruction[-1]]
    return []


def given_register(instruction):
    """Returns the register that the instruction gives a value, or -1 if there is none."""
    if instruction[0] in GIVES_NOTHING:
        return -1
    return instruction[1]
