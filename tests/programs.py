"""Makes programs that the checker takes, and inputs for them, from the numbers of a seed."""

import random

from quietsmith.checker import check_program
from quietsmith.errors import BadProgram
from quietsmith.expressions import greatest_of
from quietsmith.forms import check_shape
from quietsmith.values import MOST
from tests.helpers import letters

TWO = ("add", "mul", "less", "same", "and", "or", "xor")
SHIFTS = ("down", "up", "low")
MODULAR = ("addmod", "submod", "mulmod")
HEADS = TWO + SHIFTS + MODULAR + ("sub", "bit", "pick", "item", "item", "name", "name", "int")


def fitted(rated, top):
    """The expression, cut off so that it is not greater than the top."""
    made, flow, most = rated
    if most <= top:
        return rated
    bits = (top + 1).bit_length() - 1
    return (("low", made, bits), flow, min(most, (1 << bits) - 1))


def flow_of(*rated):
    return "secret" if any(one[1] == "secret" for one in rated) else "public"


class Programs:
    """Makes one program after the other; `bits` are the sizes of their numbers."""

    def __init__(self, seed, bits=(1, 3, 8, 16, 17, 31, 48, 64), functions=3, levels=3):
        self.random = random.Random(seed)
        self.bits = bits
        self.functions = functions
        self.levels = levels

    def program(self):
        """A program of the right shape that the checker takes."""
        while True:
            made = self.attempt()
            try:
                return check_program(check_shape(made))
            except BadProgram:
                pass

    def attempt(self):
        self.before = []
        self.counter = 0
        for at in range(self.random.randint(1, self.functions)):
            self.before.append(self.function("f" + letters(at)))
        return tuple(self.before)

    def number(self):
        bits = self.random.choice(self.bits)
        return self.random.choice((self.random.getrandbits(bits), (1 << bits) - 1, 1 << (bits - 1), 1))

    def variables(self, least, greatest):
        made = []
        for _ in range(self.random.randint(least, greatest)):
            self.counter += 1
            size = self.random.choice((0, 0, 0, 1, 2, 3, 5, 8))
            flow = self.random.choice(("public", "secret", "secret"))
            made.append((letters(self.counter), flow, self.number(), size))
        return tuple(made)

    def function(self, name):
        params, results, others = self.variables(0, 4), self.variables(1, 3), self.variables(0, 3)
        if self.before:
            others += self.partners(self.random.choice(self.before))[:12 - len(others)]
        self.known = {variable[0]: variable for variable in params + results + others}
        self.turning = []
        return (name, params, results, others, self.body(1, self.random.randint(1, 5)))

    def partners(self, function):
        """Variables that can be targets and arguments of calls of a function."""
        made = []
        for _, flow, most, size in function[2]:
            self.counter += 1
            wider = max(most, self.random.choice((0, self.number())))
            made.append((letters(self.counter), self.random.choice((flow, "secret")), wider, size))
        for _, flow, most, size in function[1]:
            self.counter += 1
            if size > 0:
                narrower = min(most, self.random.choice((most, self.number())))
                made.append((letters(self.counter), self.random.choice((flow, "public")), narrower, size))
        return tuple(made)

    def body(self, depth, count):
        return tuple(self.statement(depth) for _ in range(count))

    def statement(self, depth):
        kinds = ("set", "set", "put", "call") + (("loop", "if") if depth < 4 else ())
        kind = self.random.choice(kinds)
        if kind == "loop":
            return self.loop(depth)
        if kind == "if":
            return ("if", self.expression(1, True)[0], self.body(depth + 1, self.random.randint(0, 2)),
                    self.body(depth + 1, self.random.randint(0, 2)))
        if kind == "call" and self.before:
            made = self.call()
            if made is not None:
                return made
        arrays = [one for one in self.known.values() if one[3] > 0]
        if kind == "put" and arrays:
            name, flow, most, size = self.random.choice(arrays)
            return ("put", name, self.index(size), self.value(flow, most))
        singles = [one for one in self.known.values() if one[3] == 0 and one[0] not in self.turning]
        if not singles:
            return ("if", ("int", 0), (), ())
        name, flow, most, _ = self.random.choice(singles)
        return ("set", name, self.value(flow, most))

    def loop(self, depth):
        self.counter += 1
        name = letters(self.counter)
        first = self.random.choice((0, 1, 2, 900))
        last = first + self.random.choice((0, 0, 1, 2, 3))
        self.known[name] = (name, "public", last, 0)
        self.turning.append(name)
        body = self.body(depth + 1, self.random.randint(0, 3))
        del self.known[name]
        self.turning.pop()
        return ("loop", name, first, last, body)

    def call(self):
        name, params, results, _, _ = self.random.choice(self.before)
        targets = []
        for _, flow, most, size in results:
            fits = [one[0] for one in self.known.values() if one[3] == size and one[2] >= most
                    and (flow == "public" or one[1] == "secret") and one[0] not in targets + self.turning]
            if not fits:
                return None
            targets.append(self.random.choice(fits))
        arguments = []
        for _, flow, most, size in params:
            if size == 0:
                arguments.append(self.value(flow, most))
                continue
            fits = [one[0] for one in self.known.values() if one[3] == size and one[2] <= most
                    and (one[1] == "public" or flow == "secret")]
            if not fits:
                return None
            arguments.append(("name", self.random.choice(fits)))
        return ("call", tuple(targets), name, tuple(arguments))

    def index(self, size):
        return fitted(self.expression(self.random.choice((0, 0, 1, 2)), True), size - 1)[0]

    def value(self, flow, most):
        return fitted(self.expression(self.levels, flow == "public"), most)[0]

    def expression(self, levels, public):
        """An expression with its flow and its greatest value."""
        while True:
            head = self.random.choice(HEADS) if levels > 0 else self.random.choice(("name", "name", "int"))
            made = self.node(head, levels, public)
            if made is not None and made[2] <= MOST:
                return made

    def node(self, head, levels, public):
        if head == "int":
            n = self.number()
            return (("int", n), "public", n)
        if head in ("name", "item"):
            fits = [one for one in self.known.values() if (one[3] > 0) == (head == "item")
                    and (one[1] == "public" or not public)]
            if not fits:
                return None
            name, flow, most, size = self.random.choice(fits)
            made = (head, name) if head == "name" else (head, name, self.index(size))
            return (made, flow, most)
        first = self.expression(levels - 1, public)
        if head in SHIFTS:
            k = min(255, self.random.choice((0, 1, 5, 15, 16, 17, 33, 100)))
            return ((head, first[0], k), first[1], greatest_of(head, [first[2]], k))
        if head == "bit":
            place = fitted(self.expression(levels - 1, True), 255)
            return ((head, first[0], place[0]), first[1], 1)
        second = self.expression(levels - 1, public)
        if head == "pick":
            chosen = fitted(self.expression(levels - 1, public), 1)
            return ((head, chosen[0], first[0], second[0]), flow_of(chosen, first, second), max(first[2], second[2]))
        number = 0
        if head == "sub":
            number = self.random.choice((0, 1, 14, 15, 16, 31, 40, 255))
        if head in MODULAR:
            number = max(3, self.number()) | (1 if head == "mulmod" else 0)
            first, second = fitted(first, number - 1), fitted(second, number - 1)
        most = greatest_of(head, [first[2], second[2]], number)
        made = (head, first[0], second[0]) + ((number,) if head in MODULAR + ("sub",) else ())
        return (made, flow_of(first, second), most)

    def value_of(self, variable):
        _, _, most, size = variable
        items = [self.random.choice((0, most, self.random.randint(0, most))) for _ in range(max(1, size))]
        return tuple(items) if size else items[0]

    def inputs(self, program):
        return tuple(self.value_of(variable) for variable in program[-1][1])

    def twin(self, program, inputs):
        """Other inputs with the same public ones."""
        return tuple(value if variable[1] == "public" else self.value_of(variable)
                     for variable, value in zip(program[-1][1], inputs))
