"""The rules of programs."""

from quietsmith.errors import BadProgram
from quietsmith.expressions import MODULAR, greatest_of, number_of, operands
from quietsmith.values import MOST, joined_flow
from quietsmith.work import work_of_body

MOST_WORK = 20000
LAST_BIT = 255


def check_program(program):
    """Returns the program if it keeps the rules, and raises BadProgram otherwise."""
    before = {}
    works = {}
    for function in program:
        name, params, results, others, body = function
        Checker(params + results + others, before).body(body)
        works[name] = work_of_body(body, works)
        if works[name] > MOST_WORK:
            raise BadProgram("work")
        before[name] = function
    return program


def need_range(most, greatest):
    """Makes sure that a greatest value is not greater than the one that is allowed."""
    if most > greatest:
        raise BadProgram("range")


def need_fit(rated, variable):
    """Makes sure that a variable can get what has this flow and this greatest value."""
    flow, most = rated
    _, variable_flow, variable_most, _ = variable
    if flow == "secret" and variable_flow == "public":
        raise BadProgram("flow")
    need_range(most, variable_most)


class Checker:
    """Looks at the body of a function with these variables, which can call those before it."""

    def __init__(self, variables, before):
        self.known = {variable[0]: variable for variable in variables}
        self.turning = {}
        self.before = before

    def body(self, body):
        """Looks at the statements of a body."""
        for statement in body:
            self.statement(statement)

    def statement(self, statement):
        """Looks at a statement."""
        head = statement[0]
        if head == "set":
            _, name, value = statement
            rated = self.expression(value)
            need_fit(rated, self.changed(name, 0))
        elif head == "put":
            _, name, index, value = statement
            row = self.row(name)
            self.check_index(index, row[3] - 1)
            need_fit(self.expression(value), row)
        elif head == "loop":
            self.loop(statement)
        elif head == "if":
            _, condition, body, other = statement
            flow, _ = self.expression(condition)
            if flow == "secret":
                raise BadProgram("flow")
            self.body(body)
            self.body(other)
        else:
            self.call(statement)

    def loop(self, statement):
        """Looks at a loop; its variable is known within its body alone."""
        _, name, _, last, body = statement
        if name in self.known:
            raise BadProgram("name")
        self.known[name] = (name, "public", last, 0)
        self.turning[name] = True
        self.body(body)
        del self.known[name]
        del self.turning[name]

    def call(self, statement):
        """Looks at a call."""
        _, targets, name, arguments = statement
        if name not in self.before:
            raise BadProgram("name")
        _, params, results, _, _ = self.before[name]
        if len(arguments) != len(params) or len(targets) != len(results):
            raise BadProgram("type")
        for argument, param in zip(arguments, params):
            need_fit(self.argument(argument, param), param)
        for target, result in zip(targets, results):
            _, flow, most, size = result
            need_fit((flow, most), self.changed(target, size))

    def argument(self, argument, param):
        """Returns the flow and the greatest value of an argument for a param."""
        size = param[3]
        if size == 0:
            return self.expression(argument)
        if argument[0] != "name":
            raise BadProgram("type")
        return self.sized(argument[1], size)[1:3]

    def variable(self, name):
        """Returns the variable with this name."""
        if name not in self.known:
            raise BadProgram("name")
        return self.known[name]

    def sized(self, name, size):
        """Returns the variable with this name, which must have this size."""
        variable = self.variable(name)
        if variable[3] != size:
            raise BadProgram("type")
        return variable

    def row(self, name):
        """Returns the array with this name."""
        variable = self.variable(name)
        if variable[3] == 0:
            raise BadProgram("type")
        return variable

    def changed(self, name, size):
        """Returns the variable with this name and size, which gets a value."""
        variable = self.sized(name, size)
        if name in self.turning:
            raise BadProgram("type")
        return variable

    def check_index(self, index, greatest):
        """Looks at an index or at the number of a bit, which must be public and not too great."""
        flow, most = self.expression(index)
        if flow == "secret":
            raise BadProgram("flow")
        need_range(most, greatest)

    def expression(self, expression):
        """Looks at an expression, and returns its flow and its greatest value."""
        head = expression[0]
        if head == "int":
            return ("public", expression[1])
        if head == "name":
            return self.sized(expression[1], 0)[1:3]
        if head == "item":
            row = self.row(expression[1])
            self.check_index(expression[2], row[3] - 1)
            return row[1:3]
        if head == "bit":
            flow, _ = self.expression(expression[1])
            self.check_index(expression[2], LAST_BIT)
            return (flow, 1)
        return self.operation(expression)

    def operation(self, expression):
        """Looks at any other expression with operands."""
        head = expression[0]
        number = number_of(expression)
        rated = [self.expression(operand) for operand in operands(expression)]
        mosts = [most for _, most in rated]
        if head == "pick":
            need_range(mosts[0], 1)
        if head in MODULAR:
            need_range(max(mosts), number - 1)
        if head == "mulmod" and number % 2 == 0:
            raise BadProgram("range")
        most = greatest_of(head, mosts, number)
        need_range(most, MOST)
        return (joined_flow([flow for flow, _ in rated]), most)
