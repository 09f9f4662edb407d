"""The texts of programs."""

from quietsmith.expressions import PARTS, SIGNS


def program_text(program):
    """Returns the text of a program."""
    return " ".join([function_text(function) for function in program])


def function_text(function):
    """Returns the text of a function."""
    name, params, results, others, body = function
    head = f"fun {name}({variables_text(params)}) to ({variables_text(results)})"
    rows = [f"var {variable_text(variable)};" for variable in others]
    rows.extend([statement_text(statement) for statement in body])
    return f"{head} {braces_text(rows)}"


def variables_text(variables):
    """Returns the texts of variables, with commas between them."""
    return ", ".join([variable_text(variable) for variable in variables])


def variable_text(variable):
    """Returns the text of a variable."""
    name, flow, most, size = variable
    text = f"{flow} {name} {most}"
    if size == 0:
        return text
    return f"{text} [{size}]"


def braces_text(rows):
    """Returns texts in braces, with one space between any two."""
    return " ".join(["{", *rows, "}"])


def body_text(body):
    """Returns the text of a body within a statement."""
    return braces_text([statement_text(statement) for statement in body])


def statement_text(statement):
    """Returns the text of a statement."""
    head = statement[0]
    if head == "set":
        return f"{statement[1]} = {expression_text(statement[2])};"
    if head == "put":
        index = expression_text(statement[2])
        return f"{statement[1]}[{index}] = {expression_text(statement[3])};"
    if head == "loop":
        _, name, first, last, body = statement
        return f"loop {name} {first} to {last} {body_text(body)}"
    if head == "if":
        _, condition, body, other = statement
        return f"if {expression_text(condition)} {body_text(body)} else {body_text(other)}"
    _, targets, name, arguments = statement
    places = ", ".join(list(targets))
    given = ", ".join([expression_text(argument) for argument in arguments])
    return f"({places}) = {name}({given});"


def expression_text(expression):
    """Returns the text of an expression."""
    head = expression[0]
    kinds = PARTS[head]
    texts = [part_text(kind, part) for kind, part in zip(kinds, expression[1:])]
    if head in ("int", "name"):
        return texts[0]
    if head == "item":
        return f"{texts[0]}[{texts[1]}]"
    if head == "sub":
        return f"({texts[0]} - {texts[1]} : {texts[2]})"
    if head in SIGNS:
        return f"({texts[0]} {SIGNS[head]} {texts[1]})"
    inside = ", ".join(texts)
    return f"{head}({inside})"


def part_text(kind, part):
    """Returns the text of a part of an expression: an operand, a name or a number."""
    if kind == "a":
        return expression_text(part)
    return str(part)
