"""The meaning of programs, over whole numbers."""

from quietsmith.errors import BadInput
from quietsmith.expressions import number_of, operands, result_of
from quietsmith.values import are_values, zero_value


def run_program(program, inputs):
    """Returns the outputs of a checked program for these inputs."""
    main = program[-1]
    if not are_values(main[1], inputs):
        raise BadInput()
    functions = {function[0]: function for function in program}
    return run_function(main, inputs, functions)


def run_function(function, values, functions):
    """Returns the values of the results of a function whose params have these values."""
    _, params, results, others, body = function
    known = {param[0]: value for param, value in zip(params, values)}
    for variable in results + others:
        known[variable[0]] = zero_value(variable)
    run_body(body, known, functions)
    return tuple([known[result[0]] for result in results])


def run_body(body, known, functions):
    """Does the statements of a body; known has the values of the variables."""
    for statement in body:
        run_statement(statement, known, functions)


def run_statement(statement, known, functions):
    """Does a statement."""
    head = statement[0]
    if head == "set":
        known[statement[1]] = value_of(statement[2], known)
    elif head == "put":
        _, name, place, value = statement
        index = value_of(place, known)
        row = known[name]
        known[name] = row[:index] + (value_of(value, known),) + row[index + 1:]
    elif head == "loop":
        _, name, first, last, body = statement
        # Empty turns cost no work, so there can be millions of them.
        if len(body) > 0:
            for turn in range(first, last + 1):
                known[name] = turn
                run_body(body, known, functions)
    elif head == "if":
        _, condition, body, other = statement
        run_body(body if value_of(condition, known) != 0 else other, known, functions)
    else:
        _, targets, name, arguments = statement
        values = tuple([value_of(argument, known) for argument in arguments])
        outcomes = run_function(functions[name], values, functions)
        for target, outcome in zip(targets, outcomes):
            known[target] = outcome


def value_of(expression, known):
    """Returns the value of an expression; that of an array is a tuple."""
    head = expression[0]
    if head == "int":
        return expression[1]
    if head == "name":
        return known[expression[1]]
    if head == "item":
        index = value_of(expression[2], known)
        return known[expression[1]][index]
    values = [value_of(operand, known) for operand in operands(expression)]
    return result_of(head, values, number_of(expression))
