"""Makes programs shorter."""

from quietsmith.expressions import PARTS, greatest_of, number_of, operands, result_of
from quietsmith.forms import MOST_STATEMENTS

ZERO = ("int", 0)
ONE = ("int", 1)


def simplify(program):
    """Returns a program that does the same as a checked program, and is not longer."""
    return tuple([simpler_function(function) for function in program])


def simpler_function(function):
    """Returns a function with a simpler body."""
    name, params, results, others, body = function
    mosts = {variable[0]: variable[2] for variable in params + results + others}
    return (name, params, results, others, Simplifier(mosts).body(body))


class Simplifier:
    """Simplifies the statements of a function, whose variables have these greatest values."""

    def __init__(self, mosts):
        self.mosts = dict(mosts)

    def body(self, body):
        """Returns a simpler body."""
        return without_lost_sets(shortened([self.statement(statement) for statement in body]))

    def statement(self, statement):
        """Returns a statement with simpler expressions and bodies."""
        head = statement[0]
        if head == "set":
            return (head, statement[1], self.expression(statement[2]))
        if head == "put":
            return (head, statement[1], self.expression(statement[2]), self.expression(statement[3]))
        if head == "if":
            return (head, self.expression(statement[1]), self.body(statement[2]), self.body(statement[3]))
        if head == "loop":
            return (*statement[:4], self.body_of_loop(statement))
        arguments = tuple([self.expression(argument) for argument in statement[3]])
        return (*statement[:3], arguments)

    def body_of_loop(self, statement):
        """Returns the simpler body of a loop, in which its variable is known."""
        _, name, _, last, body = statement
        self.mosts[name] = last
        simpler = self.body(body)
        del self.mosts[name]
        return simpler

    def expression(self, expression):
        """Returns a simpler expression."""
        kinds = PARTS[expression[0]]
        parts = [self.expression(part) if kind == "a" else part for kind, part in zip(kinds, expression[1:])]
        return self.replaced((expression[0], *parts))

    def replaced(self, expression):
        """Returns what the first rule that fits makes of an expression with simple operands."""
        head = expression[0]
        parts = operands(expression)
        if head == "item" or len(parts) == 0:
            return expression
        if all([part[0] == "int" for part in parts]):
            return ("int", result_of(head, [part[1] for part in parts], number_of(expression)))
        if head == "low":
            return self.simpler_low(expression)
        if head in ("down", "up"):
            return parts[0] if expression[2] == 0 else expression
        if head == "pick":
            return simpler_pick(expression)
        return simpler_pair(expression)

    def simpler_low(self, expression):
        """Returns what the rules make of a `low`."""
        _, part, count = expression
        if count == 0:
            return ZERO
        if self.greatest(part) < (1 << count):
            return part
        if part[0] == "low":
            return ("low", part[1], min(part[2], count))
        return expression

    def greatest(self, expression):
        """Returns the greatest value of an expression."""
        head = expression[0]
        if head == "int":
            return expression[1]
        if head in ("name", "item"):
            return self.mosts[expression[1]]
        parts = [self.greatest(part) for part in operands(expression)]
        return greatest_of(head, parts, number_of(expression))


def simpler_pick(expression):
    """Returns what the rules make of a `pick`."""
    _, condition, first, second = expression
    if condition == ONE:
        return first
    if condition == ZERO or first == second:
        return second
    return expression


def simpler_pair(expression):
    """Returns what the rules make of an operation on two operands, which are not both numbers."""
    head, first, second = expression[:3]
    pair = (first, second)
    if head in ("add", "or", "xor", "addmod") and ZERO in pair:
        return second if first == ZERO else first
    if head == "mul" and ONE in pair:
        return second if first == ONE else first
    if head in ("mul", "and", "mulmod") and ZERO in pair:
        return ZERO
    if head == "submod" and second == ZERO:
        return first
    return expression


def shortened(body):
    """Returns the list of the statements without those that do nothing, and with the chosen ones of choices."""
    kept = []
    for index, statement in enumerate(body):
        if statement[0] == "if" and statement[1][0] == "int" and not does_nothing(statement):
            chosen = statement[3] if statement[1] == ZERO else statement[2]
            behind = len(body) - index - 1
            if len(kept) + len(chosen) + behind > MOST_STATEMENTS:
                chosen = (statement,)
            kept.extend(chosen)
        elif not does_nothing(statement):
            kept.append(statement)
    return kept


def does_nothing(statement):
    """Tells whether a statement is left out: a variable set to itself, or bodies without statements."""
    head = statement[0]
    if head == "set":
        return statement[2] == ("name", statement[1])
    if head == "loop":
        return len(statement[4]) == 0
    return head == "if" and len(statement[2]) + len(statement[3]) == 0


def without_lost_sets(body):
    """Returns the body without each `set` whose variable is set again at once."""
    kept = []
    for statement in reversed(body):
        if len(kept) == 0 or not is_lost(statement, kept[-1]):
            kept.append(statement)
    kept.reverse()
    return tuple(kept)


def is_lost(statement, following):
    """Tells whether nothing comes of a statement because of the one behind it."""
    if statement[0] != "set" or following[0] != "set" or statement[1] != following[1]:
        return False
    return not names(following[2], statement[1])


def names(expression, name):
    """Tells whether an expression names a variable."""
    if expression[0] in ("name", "item") and expression[1] == name:
        return True
    return any([names(part, name) for part in operands(expression)])
