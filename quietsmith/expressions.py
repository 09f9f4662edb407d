"""The kinds of expressions: their parts, their signs, their values and their bounds."""

from quietsmith.values import MOST

# A letter for each part that stands behind the head of an expression:
# "a" is an operand, "x" a name, and "n", "k" and "m" are numbers.
PARTS = {
    "int": "n",
    "name": "x",
    "item": "xa",
    "add": "aa",
    "mul": "aa",
    "sub": "aak",
    "less": "aa",
    "same": "aa",
    "and": "aa",
    "or": "aa",
    "xor": "aa",
    "down": "ak",
    "up": "ak",
    "low": "ak",
    "bit": "aa",
    "pick": "aaa",
    "addmod": "aam",
    "submod": "aam",
    "mulmod": "aam",
}

# The least and the greatest number for each letter.
RANGES = {"n": (0, MOST), "k": (0, 255), "m": (2, MOST)}

# The heads that are written as a sign between two parts.
SIGNS = {
    "add": "+",
    "mul": "*",
    "sub": "-",
    "less": "<",
    "same": "==",
    "and": "&",
    "or": "|",
    "xor": "^",
    "down": ">>",
    "up": "<<",
}

MODULAR = ("addmod", "submod", "mulmod")


def operands(expression):
    """Returns the list of the operands of an expression."""
    kinds = PARTS[expression[0]]
    return [part for kind, part in zip(kinds, expression[1:]) if kind == "a"]


def number_of(expression):
    """Returns the number that an expression has as its last part, or 0 if it has none."""
    kinds = PARTS[expression[0]]
    if kinds[-1] in RANGES:
        return expression[-1]
    return 0


def mask(count):
    """Returns the greatest number with so many binary digits."""
    return (1 << count) - 1


def result_of(head, values, number):
    """Returns the value of an expression with operands that have these values."""
    first = values[0]
    if head == "down":
        return first >> number
    if head == "up":
        return first << number
    if head == "low":
        return first & mask(number)
    if head == "pick":
        return values[1] if first == 1 else values[2]
    if head == "sub":
        return (first - values[1]) & mask(number + 1)
    if head in MODULAR:
        return _modular(head, first, values[1], number)
    return _of_two(head, first, values[1])


def _modular(head, a, b, modulus):
    if head == "addmod":
        return (a + b) % modulus
    if head == "submod":
        return (a - b) % modulus
    return (a * b) % modulus


def _of_two(head, a, b):
    if head == "add":
        return a + b
    if head == "mul":
        return a * b
    if head == "less":
        return 1 if a < b else 0
    if head == "same":
        return 1 if a == b else 0
    if head == "and":
        return a & b
    if head == "or":
        return a | b
    if head == "xor":
        return a ^ b
    return (a >> b) & 1


def greatest_of(head, mosts, number):
    """Returns the greatest value of an expression whose operands have these greatest values."""
    if head in ("less", "same", "bit"):
        return 1
    if head == "sub":
        return mask(number + 1)
    if head == "and":
        return min(mosts[0], mosts[1])
    if head in ("or", "xor"):
        wider = max(mosts[0], mosts[1])
        return mask(wider.bit_length())
    if head == "low":
        return min(mosts[0], mask(number))
    if head == "pick":
        return max(mosts[1], mosts[2])
    if head in MODULAR:
        return number - 1
    # The sum, the product and the shifts grow with their operands.
    return result_of(head, mosts, number)
