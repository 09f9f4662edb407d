"""What several tests use."""

from quietsmith.syntax import parse_program

X = ("x", "secret", 9, 0)
Y = ("y", "secret", 9, 0)
ONE = ("int", 1)
SET = ("set", "y", ONE)

# No inputs for the params `secret x 9, public r 5 [2], secret z 0`.
WRONG_INPUTS = (
    (), (9,), (9, (0, 5)), (9, (0, 5), 0, 0), (10, (0, 5), 0), (-1, (0, 5), 0), (9, (0, 6), 0),
    (9, (6, 0), 0), (9, (-1, 0), 0), (9, (0,), 0), (9, (0, 0, 0), 0), (9, (), 0), (9, 0, 0),
    (9, [0, 5], 0), ((9,), (0, 5), 0), (True, (0, 5), 0), (9, (True, 5), 0), (9, (0, False), 0),
    (9, (0, 5), False), (9, (0, 5), 1), ("9", (0, 5), 0), (None, (0, 5), 0), (9, None, 0),
    [9, (0, 5), 0], None, 9, "9", {}, (9, (0, "5"), 0), ((0, 5), 9, 0),
)


def program_of(*body, params=(), results=(Y,), others=()):
    """A program of one function."""
    return (("f", tuple(params), tuple(results), tuple(others), tuple(body)),)


def refusal(kind, action, *arguments):
    """The error of this kind that the action raises, or None if it raises none."""
    try:
        action(*arguments)
    except kind as error:
        return error
    return None


def deep_expression(levels):
    """An expression with so many levels of nodes."""
    made = ONE
    for _ in range(levels - 1):
        made = ("low", made, 1)
    return made


def deep_statement(levels, inner=None):
    """Loops within one another; the innermost statement can be another one."""
    made = inner or ("loop", letters(levels), 0, 0, ())
    for level in range(levels - 1, 0, -1):
        made = ("loop", letters(level), 0, 0, (made,))
    return made


def letters(number):
    """A name for a number."""
    return "v" + "".join(chr(ord("a") + int(digit)) for digit in str(number))


def wide_expression(nodes):
    """An expression with so many nodes, and few levels."""
    if nodes == 1:
        return ONE
    if nodes == 2:
        return ("low", ONE, 1)
    half = (nodes - 1) // 2
    return ("add", wide_expression(half), wide_expression(nodes - 1 - half))


def text_of(statements, params="", results="secret y 9", others=""):
    """The text of a program of one function."""
    return f"fun f({params}) to ({results}) {{ {others} {statements} }}"


def read(statements, params="", results="secret y 9", others=""):
    """The program of one function with these statements."""
    return parse_program(text_of(statements, params, results, others))
