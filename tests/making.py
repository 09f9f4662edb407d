"""Makes programs of the right form from the numbers of a seed."""

import random

from quietsmith.values import MOST
from tests.helpers import letters

TWO = ("add", "mul", "less", "same", "and", "or", "xor", "bit")
NUMBERED = ("down", "up", "low")
MODULAR = ("addmod", "submod", "mulmod")


class Maker:
    """Makes one program after the other."""

    def __init__(self, seed):
        self.random = random.Random(seed)

    def number(self, least, greatest):
        bits = self.random.choice((1, 3, 8, 30, 256))
        return min(greatest, least + self.random.getrandbits(bits))

    def name(self):
        return "".join(self.random.choice("abxyz") for _ in range(self.random.randint(7, 12)))

    def variables(self, start, least, greatest):
        return tuple(
            (letters(start + at), self.random.choice(("public", "secret")),
             self.number(0, MOST), self.random.choice((0, 0, 1, 5, 64)))
            for at in range(self.random.randint(least, greatest)))

    def program(self):
        return tuple(self.function("f" + letters(at)) for at in range(self.random.randint(1, 3)))

    def function(self, name):
        return (name, self.variables(10, 0, 3), self.variables(20, 1, 3), self.variables(30, 0, 3),
                self.body(1, self.random.randint(0, 5)))

    def body(self, depth, count):
        return tuple(self.statement(depth) for _ in range(count))

    def statement(self, depth):
        kind = self.random.choice(("set", "put", "call") + (("loop", "if") if depth < 4 else ()))
        if kind == "set":
            return ("set", self.name(), self.expression(3))
        if kind == "put":
            return ("put", self.name(), self.expression(2), self.expression(2))
        if kind == "loop":
            first = self.number(0, 1023)
            last = self.number(first, 1023)
            return ("loop", self.name(), first, last, self.body(depth + 1, self.random.randint(0, 2)))
        if kind == "if":
            return ("if", self.expression(2), self.body(depth + 1, self.random.randint(0, 2)),
                    self.body(depth + 1, self.random.randint(0, 2)))
        targets = tuple(letters(at) for at in range(self.random.randint(1, 4)))
        arguments = tuple(self.expression(2) for _ in range(self.random.randint(0, 3)))
        return ("call", targets, self.name(), arguments)

    def expression(self, levels):
        heads = ("int", "name")
        if levels > 0:
            heads += TWO + NUMBERED + MODULAR + ("item", "sub", "pick")
        head = self.random.choice(heads)
        if head == "int":
            return ("int", self.number(0, MOST))
        if head == "name":
            return ("name", self.name())
        first = self.expression(levels - 1)
        if head == "item":
            return ("item", self.name(), first)
        if head in NUMBERED:
            return (head, first, self.number(0, 255))
        second = self.expression(levels - 1)
        if head in TWO:
            return (head, first, second)
        if head == "sub":
            return (head, first, second, self.number(0, 255))
        if head == "pick":
            return (head, first, second, self.expression(levels - 1))
        return (head, first, second, self.number(2, MOST))
