"""Names, integers, variables and their values."""

MOST = (1 << 256) - 1

RESERVED = (
    "addmod", "bit", "else", "fun", "if", "loop", "low",
    "mulmod", "pick", "public", "secret", "submod", "to", "var",
)

FLOWS = ("public", "secret")
LONGEST_NAME = 12
GREATEST_SIZE = 64


def is_name(value):
    """Tells whether the value is a name."""
    if not isinstance(value, str) or not 1 <= len(value) <= LONGEST_NAME:
        return False
    return value not in RESERVED and all("a" <= letter <= "z" for letter in value)


def is_integer(value, least, greatest):
    """Tells whether the value is an integer from the least to the greatest one."""
    if not isinstance(value, int) or isinstance(value, bool):
        return False
    return least <= value <= greatest


def is_variable(value):
    """Tells whether the value is a variable: a name, a flow, a greatest value and a size."""
    if not isinstance(value, tuple) or len(value) != 4:
        return False
    name, flow, most, size = value
    if not is_name(name) or flow not in FLOWS:
        return False
    return is_integer(most, 0, MOST) and is_integer(size, 0, GREATEST_SIZE)


def is_value(variable, value):
    """Tells whether the variable can have this value."""
    _, _, most, size = variable
    if size == 0:
        return is_integer(value, 0, most)
    if not isinstance(value, tuple) or len(value) != size:
        return False
    return all(is_integer(item, 0, most) for item in value)


def are_values(variables, values):
    """Tells whether the values are a tuple with one value for each of the variables."""
    if not isinstance(values, tuple) or len(values) != len(variables):
        return False
    return all(is_value(variable, value) for variable, value in zip(variables, values))


def zero_value(variable):
    """Returns the value that the variable has at first."""
    size = variable[3]
    if size == 0:
        return 0
    return (0,) * size


def joined_flow(flows):
    """Returns the flow of what depends on things of these flows."""
    return "secret" if "secret" in flows else "public"
