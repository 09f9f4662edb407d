"""Reads the texts of programs."""

from quietsmith.errors import BadProgram, BadText
from quietsmith.expressions import PARTS, RANGES, SIGNS
from quietsmith.forms import DEEPEST, LAST_TURN, check_shape
from quietsmith.tokens import Tokens
from quietsmith.values import FLOWS, GREATEST_SIZE, MOST, is_name

LONGEST_TEXT = 8000
LISTED = ("low", "bit", "pick", "addmod", "submod", "mulmod")


def parse_program(text):
    """Returns the program with this text, and raises BadText if there is none."""
    if not isinstance(text, str) or len(text) > LONGEST_TEXT:
        raise BadText(0)
    tokens = Tokens(text)
    functions = [read_function(tokens)]
    while tokens.peek() != "":
        functions.append(read_function(tokens))
    try:
        return check_shape(tuple(functions))
    except BadProgram:
        raise BadText(0) from None


def read_function(tokens):
    """Reads a function."""
    tokens.need("fun")
    name = tokens.name()
    params = read_listed(tokens, read_variable)
    tokens.need("to")
    results = read_listed(tokens, read_variable)
    tokens.need("{")
    others = []
    while tokens.take_if("var"):
        others.append(read_variable(tokens))
        tokens.need(";")
    return (name, params, results, tuple(others), read_statements(tokens, 1))


def read_listed(tokens, read):
    """Reads things in parentheses with commas between them, each by the function that is given."""
    tokens.need("(")
    if tokens.take_if(")"):
        return ()
    things = [read(tokens)]
    while tokens.take_if(","):
        things.append(read(tokens))
    tokens.need(")")
    return tuple(things)


def read_variable(tokens):
    """Reads a variable."""
    if tokens.peek() not in FLOWS:
        tokens.refuse()
    flow = tokens.take()
    name = tokens.name()
    most = tokens.number(0, MOST)
    size = 0
    if tokens.take_if("["):
        size = tokens.number(1, GREATEST_SIZE)
        tokens.need("]")
    return (name, flow, most, size)


def read_target(tokens):
    """Reads a target of a call."""
    return tokens.name()


def read_block(tokens, depth):
    """Reads a body in braces, with statements of this depth."""
    tokens.need("{")
    return read_statements(tokens, depth)


def read_statements(tokens, depth):
    """Reads statements of this depth, and the brace behind them."""
    statements = []
    while not tokens.take_if("}"):
        if depth > DEEPEST:
            tokens.refuse()
        statements.append(read_statement(tokens, depth))
    return tuple(statements)


def read_statement(tokens, depth):
    """Reads a statement of this depth."""
    token = tokens.peek()
    if token == "loop":
        return read_loop(tokens, depth)
    if token == "if":
        return read_if(tokens, depth)
    if token == "(":
        return read_call(tokens, depth)
    return read_change(tokens, depth)


def read_loop(tokens, depth):
    """Reads a loop."""
    tokens.need("loop")
    name = tokens.name()
    first = tokens.number(0, LAST_TURN)
    tokens.need("to")
    last = tokens.number(first, LAST_TURN)
    return ("loop", name, first, last, read_block(tokens, depth + 1))


def read_if(tokens, depth):
    """Reads an if."""
    tokens.need("if")
    condition = read_expression(tokens, depth + 1)
    body = read_block(tokens, depth + 1)
    tokens.need("else")
    return ("if", condition, body, read_block(tokens, depth + 1))


def read_call(tokens, depth):
    """Reads a call."""
    targets = read_listed(tokens, read_target)
    tokens.need("=")
    name = tokens.name()
    arguments = read_listed(tokens, lambda rest: read_expression(rest, depth + 1))
    tokens.need(";")
    return ("call", targets, name, arguments)


def read_change(tokens, depth):
    """Reads a set or a put."""
    name = tokens.name()
    index = None
    if tokens.take_if("["):
        index = read_expression(tokens, depth + 1)
        tokens.need("]")
    tokens.need("=")
    value = read_expression(tokens, depth + 1)
    tokens.need(";")
    if index is None:
        return ("set", name, value)
    return ("put", name, index, value)


def read_expression(tokens, depth):
    """Reads an expression of this depth."""
    if depth > DEEPEST:
        tokens.refuse()
    token = tokens.peek()
    if token == "(":
        return read_signed(tokens, depth)
    if token in LISTED:
        return read_worded(tokens, depth)
    if is_name(token):
        return read_named(tokens, depth)
    return ("int", tokens.number(0, MOST))


def read_named(tokens, depth):
    """Reads a variable or an item in an expression."""
    name = tokens.name()
    if not tokens.take_if("["):
        return ("name", name)
    index = read_expression(tokens, depth + 1)
    tokens.need("]")
    return ("item", name, index)


def read_signed(tokens, depth):
    """Reads an expression that is written with a sign between its parts."""
    tokens.need("(")
    parts = [read_expression(tokens, depth + 1)]
    head = head_with(tokens.peek())
    if head == "":
        tokens.refuse()
    tokens.take()
    kinds = PARTS[head]
    parts.append(read_part(tokens, kinds[1], depth + 1))
    if head == "sub":
        tokens.need(":")
        parts.append(read_part(tokens, kinds[2], depth + 1))
    tokens.need(")")
    return (head, *parts)


def head_with(sign):
    """Returns the head that is written with this sign, or an empty text."""
    for head in SIGNS:
        if SIGNS[head] == sign:
            return head
    return ""


def read_worded(tokens, depth):
    """Reads an expression that is written with its head before its parts."""
    head = tokens.take()
    parts = []
    tokens.need("(")
    for kind in PARTS[head]:
        if len(parts) > 0:
            tokens.need(",")
        parts.append(read_part(tokens, kind, depth + 1))
    tokens.need(")")
    return (head, *parts)


def read_part(tokens, kind, depth):
    """Reads an operand or a number of an expression."""
    if kind == "a":
        return read_expression(tokens, depth)
    least, greatest = RANGES[kind]
    return tokens.number(least, greatest)
