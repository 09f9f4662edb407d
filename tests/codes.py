"""Makes codes, states and certificates from the numbers of a seed: most of them are not taken by the judge."""

import random

START = (("public", 0, 0, -1, 0),) * 16 + ("public",)
SECRET = ("secret", 0, 65535, -1, 0)
WIDEST = (SECRET,) * 16 + ("secret",)

OPERATIONS = ("move", "addc", "sub", "subc", "mul", "high", "div", "and", "or", "xor", "less", "downby", "down", "up")
NAMES = (("set",) * 4 + ("load",) * 3 + ("store",) * 3 + ("add",) * 4 + ("below",) * 4 + ("call", "ret") * 2
         + ("halt", "jump", "jump", "carry", "clear") + OPERATIONS)
WORDS = (0, 1, 1, 2, 3, 5, 300, 65534, 65535)


def state_of(facts=(), carry="public", others=START[0]):
    """The state with these facts, a dict from registers to facts."""
    known = dict(facts)
    return tuple(known.get(reg, others) for reg in range(16)) + (carry,)


def at(place, fact, state=START):
    """The state with another fact for a register, or another flow of the carry."""
    return state[:place] + (fact,) + state[place + 1:]


class Codes:
    """Makes one code file after the other. They have few registers, so that much happens to each one."""

    def __init__(self, seed, names=NAMES, registers=4):
        self.random = random.Random(seed)
        self.names = names
        self.registers = registers

    def layout(self):
        regions = []
        end = 0
        for _ in range(self.random.randint(0, 4)):
            end += self.random.choice((0, 0, 1, 3))
            size = self.random.randint(1, 4)
            flow = self.random.choice(("public", "secret"))
            regions.append((end, size, flow, self.random.choice((0, 1, 3, 9, 255, 65535))))
            end += size
        return tuple(regions)

    def code_file(self, size):
        layout = self.layout()
        end = layout[-1][0] + layout[-1][1] if layout else 0
        code = [self.instruction(place, size, end) for place in range(size - 1)]
        return (layout, tuple(code) + (("halt",),))

    def reg(self):
        return self.random.randrange(self.registers)

    def instruction(self, place, size, end):
        name = self.random.choice(self.names)
        if name in ("ret", "halt", "clear"):
            return (name,)
        if name in ("jump", "call"):
            return (name, self.target(place, size))
        if name == "below":
            return (name, self.reg(), self.random.choice((0, 1, 4, 5, 9, 65535)), self.target(place, size))
        if name == "carry":
            return (name, self.reg())
        if name == "set":
            return (name, self.reg(), self.random.choice(WORDS))
        if name in ("load", "store"):
            return (name, self.reg(), self.random.choice((0, 0, self.reg())), self.random.randint(0, max(1, end)))
        if name == "move":
            return (name, self.reg(), self.reg())
        if name in ("down", "up"):
            return (name, self.reg(), self.reg(), self.random.randint(0, 15))
        return (name, self.reg(), self.reg(), self.reg())

    def target(self, place, size):
        return max(0, self.random.choice((place + 1, place + 2, place - 1, place - 2, place,
                                          self.random.randint(0, size))))

    def word(self):
        return self.random.choice(WORDS + (self.random.randint(0, 65535),))

    def fact(self):
        least, greatest = sorted((self.word(), self.word()))
        flow = self.random.choice(("public", "secret"))
        if self.random.random() < 0.5:
            return (flow, least, greatest, -1, 0)
        return (flow, least, greatest, self.random.randint(0, 9), self.random.choice((0, 1, 7, 65535)))

    def state(self):
        return tuple(self.fact() for _ in range(16)) + (self.random.choice(("public", "secret")),)

    def memory(self, layout, public=None):
        """A memory of a layout; its public regions are those of another memory, if there is one."""
        words = [self.random.randint(0, 65535) for _ in range(layout[-1][0] + layout[-1][1] if layout else 0)]
        for start, size, flow, most in layout:
            for address in range(start, start + size):
                if flow == "public" and public is not None:
                    words[address] = public[address]
                else:
                    words[address] = self.random.choice((0, most, self.random.randint(0, most)))
        return words

    def other_state(self, state):
        """A state that differs a little."""
        place = self.random.randrange(17)
        if place == 16:
            return state[:16] + (self.random.choice(("public", "secret")),)
        flow, least, greatest, cell, plus = state[place]
        fact = self.random.choice((
            ("secret", least, greatest, cell, plus), (flow, 0, 65535, cell, plus), (flow, least, greatest, -1, 0),
            (flow, least, least, cell, plus), (flow, least, 65535, cell, plus), self.fact(),
            (flow, max(0, least - 1), min(65535, greatest + 1), cell, plus)))
        return at(place, fact, state)

    def other_certificate(self, certificate, size):
        """A certificate that differs a little."""
        routines, notes = list(certificate[0]), dict(certificate[1])
        kind = self.random.choice(("note", "note", "note", "drop", "add", "level", "exit", "cut", "begin"))
        place = self.random.choice(sorted(notes) or [0])
        notes.setdefault(place, START)
        number = self.random.randrange(len(routines))
        first, level, leaving = routines[number]
        if kind == "note":
            notes[place] = self.other_state(notes[place])
        elif kind == "drop":
            del notes[place]
        elif kind == "add":
            notes.setdefault(self.random.randrange(size), self.random.choice((WIDEST, START, notes[place])))
        elif kind == "level":
            routines[number] = (first, min(16, level + self.random.choice((1, 2))), leaving)
        elif kind == "exit":
            made = None if leaving is None else self.other_state(leaving)
            routines[number] = (first, level, self.random.choice((made, WIDEST, None)))
        elif kind == "cut" and number > 0:
            del routines[number]
        elif kind == "begin":
            fresh = self.random.randrange(size)
            if fresh not in [routine[0] for routine in routines]:
                routines = sorted(routines + [(fresh, 0, None)], key=lambda routine: routine[0])
        return (tuple(routines), tuple(sorted(notes.items())))
