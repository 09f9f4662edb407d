"""The form of programs."""

from quietsmith.errors import BadProgram
from quietsmith.expressions import PARTS, RANGES
from quietsmith.values import is_integer, is_name, is_variable

MOST_NODES = 500
MOST_STATEMENTS = 24
DEEPEST = 16
LAST_TURN = 1023

# As in PARTS; "t" is a bound of a loop, "b" a body, "g" the targets and "v" the arguments.
STATEMENT_PARTS = {
    "set": "xa",
    "put": "xaa",
    "loop": "xttb",
    "if": "abb",
    "call": "gxv",
}


class Nodes:
    """Counts nodes. It stops the look at a program as soon as there are too many."""

    def __init__(self):
        self.total = 0

    def enter(self, depth):
        """Counts a node of this depth; functions and variables have the depth 0."""
        self.total += 1
        need(self.total <= MOST_NODES and depth <= DEEPEST)


def check_shape(value):
    """Returns the value if it has the form of a program, and raises BadProgram otherwise."""
    nodes = Nodes()
    need_tuple(value, 1, 8)
    for function in value:
        check_function(function, nodes)
    need_different([function[0] for function in value])
    return value


def need(right):
    """Raises the error of this file if something is not right."""
    if not right:
        raise BadProgram("shape")


def need_tuple(value, least, greatest):
    """Makes sure that the value is a tuple whose length is from the least to the greatest one."""
    need(isinstance(value, tuple) and least <= len(value) <= greatest)


def need_different(names):
    """Makes sure that no name stands twice in the list."""
    need(len(set(names)) == len(names))


def check_function(value, nodes):
    """Looks at a function."""
    nodes.enter(0)
    need_tuple(value, 5, 5)
    name, params, results, others, body = value
    need(is_name(name))
    check_variables(params, 0, 8, nodes)
    check_variables(results, 1, 4, nodes)
    check_variables(others, 0, 12, nodes)
    need_different([variable[0] for variable in params + results + others])
    check_body(body, 1, nodes)


def check_variables(value, least, greatest, nodes):
    """Looks at the params, the results or the locals of a function."""
    need_tuple(value, least, greatest)
    for variable in value:
        nodes.enter(0)
        need(is_variable(variable))


def check_body(value, depth, nodes):
    """Looks at a body with statements of this depth."""
    need_tuple(value, 0, MOST_STATEMENTS)
    for statement in value:
        nodes.enter(depth)
        check_parts(statement, STATEMENT_PARTS.get(head_of(statement)), depth, nodes)
        if statement[0] == "loop":
            need(statement[2] <= statement[3])


def check_expression(value, depth, nodes):
    """Looks at an expression of this depth."""
    nodes.enter(depth)
    check_parts(value, PARTS.get(head_of(value)), depth, nodes)


def head_of(value):
    """Returns the string with which a tuple begins, and an empty one for all other values."""
    if isinstance(value, tuple) and len(value) > 0 and isinstance(value[0], str):
        return value[0]
    return ""


def check_parts(value, kinds, depth, nodes):
    """Looks at the parts of a statement or an expression; kinds is None for an unknown head."""
    need(kinds is not None and len(value) == len(kinds) + 1)
    for kind, part in zip(kinds, value[1:]):
        check_part(kind, part, depth, nodes)


def check_part(kind, part, depth, nodes):
    """Looks at one part of a statement or an expression of this depth."""
    if kind == "a":
        check_expression(part, depth + 1, nodes)
    elif kind == "b":
        check_body(part, depth + 1, nodes)
    elif kind == "x":
        need(is_name(part))
    elif kind == "t":
        need(is_integer(part, 0, LAST_TURN))
    elif kind == "g":
        check_targets(part)
    elif kind == "v":
        need_tuple(part, 0, 8)
        for argument in part:
            check_expression(argument, depth + 1, nodes)
    else:
        least, greatest = RANGES[kind]
        need(is_integer(part, least, greatest))


def check_targets(value):
    """Looks at the targets of a call."""
    need_tuple(value, 1, 4)
    for name in value:
        need(is_name(name))
    need_different(list(value))
