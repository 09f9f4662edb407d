"""The operations on words."""

WORD = 65536

# The operations that give the carry a value, those that read it, and those of a word and a number.
CARRYING = ("add", "addc", "sub", "subc")
CHAINED = ("addc", "subc")
SHIFTS = ("down", "up")


def combine(name, a, b, carry):
    """Returns the word and the carry after the operation with this name."""
    if name in ("add", "addc"):
        total = a + b + (carry if name == "addc" else 0)
        return (total % WORD, 1 if total >= WORD else 0)
    if name in ("sub", "subc"):
        rest = a - b - (carry if name == "subc" else 0)
        return (rest % WORD, 1 if rest < 0 else 0)
    return (plain(name, a, b), carry)


def plain(name, a, b):
    """Returns the word of an operation that leaves the carry as it is."""
    if name == "mul":
        return a * b % WORD
    if name == "high":
        return a * b // WORD
    if name == "div":
        return a // b if b != 0 else WORD - 1
    if name == "and":
        return a & b
    if name == "or":
        return a | b
    if name == "xor":
        return a ^ b
    if name == "less":
        return 1 if a < b else 0
    if name == "down":
        return a >> b
    if name == "up":
        return (a << b) % WORD
    return a >> (b % 16)


def outcome(instruction, words, carry):
    """Returns the word that an instruction gives its register, and the carry behind it.

    The words of the registers stand in a list or a dict. It takes each instruction
    that gives a register a value, but for `load`.
    """
    name = instruction[0]
    if name == "set":
        return (instruction[2], carry)
    if name == "carry":
        return (carry, carry)
    first = words[instruction[2]]
    if name == "move":
        return (first, carry)
    if name in SHIFTS:
        return (plain(name, first, instruction[3]), carry)
    return combine(name, first, words[instruction[3]], carry)
