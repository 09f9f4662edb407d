"""The meaning of programs, over whole numbers."""

from quietsmith.errors import BadInput
from quietsmith.expressions import number_of, operands, result_of
from quietsmith.values import are_values, zero_value


def run_program(program, inputs):
    """Returns the outputs of a checked program for these inputs."""
    main = program[-1]
    if not are_values(main[1], inputs):
        raise BadInput()
    functions = {function[0]: function for function in program}
    return run_function(main, inputs, functions)


def run_function(function, values, functions):
    """Returns the values of the results of a function whose params have these values."""
    _, params, results, others, body = function
    known = {param[0]: value for param, value in zip(params, values)}
    for variable in results + others:
        known[variable[0]] = zero_value(variable)
    frame = Frame(known, functions)
    frame.body(body)
    return tuple([frame.known[result[0]] for result in results])


class Frame:
    """The variables of one call of a function, with their values."""

    def __init__(self, known, functions):
        self.known = known
        self.functions = functions

    def body(self, body):
        """Does the statements of a body."""
        for statement in body:
            self.statement(statement)

    def statement(self, statement):
        """Does a statement."""
        head = statement[0]
        if head == "set":
            self.known[statement[1]] = self.value(statement[2])
        elif head == "put":
            _, name, place, value = statement
            index = self.value(place)
            row = self.known[name]
            self.known[name] = row[:index] + (self.value(value),) + row[index + 1:]
        elif head == "loop":
            _, name, first, last, body = statement
            # Empty turns cost no work, so there can be millions of them.
            if len(body) > 0:
                for turn in range(first, last + 1):
                    self.known[name] = turn
                    self.body(body)
        elif head == "if":
            _, condition, body, other = statement
            self.body(body if self.value(condition) != 0 else other)
        else:
            _, targets, name, arguments = statement
            values = [self.value(argument) for argument in arguments]
            outcomes = run_function(self.functions[name], values, self.functions)
            for target, outcome in zip(targets, outcomes):
                self.known[target] = outcome

    def value(self, expression):
        """Returns the value of an expression; that of an array is a tuple."""
        head = expression[0]
        if head == "int":
            return expression[1]
        if head == "name":
            return self.known[expression[1]]
        if head == "item":
            index = self.value(expression[2])
            return self.known[expression[1]][index]
        values = [self.value(operand) for operand in operands(expression)]
        return result_of(head, values, number_of(expression))
