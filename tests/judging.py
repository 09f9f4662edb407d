"""The judge of points 600 to 614, written down a second time for the tests.

Everything here follows the words of the document one after the other; the package does not use it.
"""

from quietsmith.errors import BadCode

NOTHING = (-1, 0)
START = (("public", 0, 0, -1, 0),) * 16 + ("public",)
THREE = ("add", "addc", "sub", "subc", "mul", "high", "div", "and", "or", "xor", "less", "downby")
SETTING = THREE + ("set", "move", "down", "up", "carry", "load")


def joined_flow(*flows):
    return "secret" if "secret" in flows else "public"


def fact_fits(fact, other):
    flow, least, greatest, cell, plus = fact
    return ((flow == "public" or other[0] == "secret") and least >= other[1] and greatest <= other[2]
            and (other[3] == -1 or (cell, plus) == other[3:]))


def state_fits(state, other):
    return (state[16] == "public" or other[16] == "secret") and all(
        fact is same or fact_fits(fact, same) for fact, same in zip(state[:16], other[:16]))


def union(state, other):
    facts = []
    for a, b in zip(state[:16], other[:16]):
        if a == b:
            facts.append(a)
        else:
            cell = a[3:] if a[3:] == b[3:] else NOTHING
            facts.append((joined_flow(a[0], b[0]), min(a[1], b[1]), max(a[2], b[2])) + cell)
    return tuple(facts) + (joined_flow(state[16], other[16]),)


def region_of(layout, least, greatest):
    """The region that has all these addresses, or None."""
    for region in layout:
        if region[0] <= least and greatest < region[0] + region[1]:
            return region
    return None


def addresses(state, instruction):
    _, least, greatest, _, _ = state[instruction[2]]
    return least + instruction[3], greatest + instruction[3]


def mask(n):
    return (1 << n.bit_length()) - 1


def bounds(name, x, X, y, Y):
    """The least and the greatest value of an operation on two registers."""
    if name in ("add", "addc"):
        more = 1 if name == "addc" else 0
        return (x + y, X + Y + more) if X + Y + more <= 65535 else (0, 65535)
    if name in ("sub", "subc"):
        more = 1 if name == "subc" else 0
        return (x - Y - more, X - y) if x >= Y + more else (0, 65535)
    if name == "mul":
        return (x * y, X * Y) if X * Y <= 65535 else (0, 65535)
    if name == "high":
        return x * y // 65536, X * Y // 65536
    if name == "div":
        return (x // Y, X // y) if y >= 1 else (0, 65535)
    if name == "and":
        return 0, min(X, Y)
    if name in ("or", "xor"):
        return 0, mask(max(X, Y))
    return (0, 1) if name == "less" else (0, X)


def result(layout, state, instruction):
    """The fact of the register that an instruction sets."""
    name = instruction[0]
    if name == "set":
        return ("public", instruction[2], instruction[2]) + NOTHING
    if name == "carry":
        return (state[16], 0, 1) + NOTHING
    if name == "load":
        least, greatest = addresses(state, instruction)
        region = region_of(layout, least, greatest)
        if region is None:
            return ("secret", 0, 65535) + NOTHING
        return (region[2], 0, region[3]) + ((least, 0) if least == greatest else NOTHING)
    flow, x, X, cell, plus = state[instruction[2]]
    if name == "move":
        return state[instruction[2]]
    if name in ("down", "up"):
        k = instruction[3]
        if name == "down":
            return (flow, x >> k, X >> k) + NOTHING
        return ((flow, x << k, X << k) if X << k <= 65535 else (flow, 0, 65535)) + NOTHING
    other, y, Y, _, _ = state[instruction[3]]
    flow = joined_flow(flow, other, state[16] if name in ("addc", "subc") else "public")
    place = NOTHING
    if name == "add" and X + Y <= 65535 and y == Y and cell != -1 and plus + y <= 65535:
        place = (cell, plus + y)
    return (flow,) + bounds(name, x, X, y, Y) + place


def next_state(layout, state, instruction):
    name = instruction[0]
    facts = list(state)
    if name in SETTING:
        facts[instruction[1]] = result(layout, state, instruction)
        if name in ("add", "addc", "sub", "subc"):
            facts[16] = facts[instruction[1]][0]
    elif name == "clear":
        facts[16] = "public"
    elif name == "store":
        least, greatest = addresses(state, instruction)
        for at in range(16):
            if least <= facts[at][3] <= greatest:
                facts[at] = facts[at][:3] + NOTHING
    return tuple(facts)


def narrowed(state, register, least, greatest):
    flow, x, X, cell, plus = state[register]
    fact = (flow, max(x, least), min(X, greatest), cell, plus)
    return state[:register] + (fact,) + state[register + 1:]


def goes_to(layout, code, place, state, exits):
    """The list of the places to which an instruction goes, with the states, and whether it is the place
    that the instruction names, or the next one; ret is not told here.
    """
    instruction = code[place]
    name = instruction[0]
    if name == "jump":
        return [(instruction[1], state, True)]
    if name == "below":
        _, register, n, p = instruction
        found = []
        if state[register][1] < n:
            found.append((p, narrowed(state, register, 0, n - 1), True))
        if state[register][2] >= n:
            found.append((place + 1, narrowed(state, register, n, 65535), False))
        return found
    if name == "call":
        found = [(instruction[1], state, True)]
        if exits.get(instruction[1]) is not None:
            found.append((place + 1, exits[instruction[1]], False))
        return found
    if name in ("ret", "halt"):
        return []
    return [(place + 1, next_state(layout, state, instruction), False)]


def named(instruction):
    return instruction[-1] if instruction[0] in ("jump", "below", "call") else None


def reachable(code):
    seen = set()
    waiting = [0]
    while waiting:
        place = waiting.pop()
        if place in seen or place >= len(code):
            continue
        seen.add(place)
        instruction = code[place]
        if instruction[0] == "jump":
            waiting.append(instruction[1])
        elif instruction[0] in ("below", "call"):
            waiting.extend((place + 1, instruction[-1]))
        elif instruction[0] not in ("ret", "halt"):
            waiting.append(place + 1)
    return seen


class Annotator:
    """Point 613 read slowly: it goes through the code until nothing grows."""

    def __init__(self, code_file):
        self.code_file = code_file
        self.layout, self.code = code_file
        self.numbers = sorted(numbers_of(code_file))
        size = len(self.code)
        self.noted = {0} | {place for place in map(named, self.code) if place is not None and place < size}
        self.firsts = sorted({0} | {one[1] for one in self.code if one[0] == "call" and one[1] < size})
        self.notes = {}
        self.exits = {first: None for first in self.firsts}

    def round(self, state):
        facts = []
        for flow, least, greatest, cell, plus in state[:16]:
            facts.append((flow, max(n for n in self.numbers if n <= least),
                          min(n for n in self.numbers if n >= greatest), cell, plus))
        return tuple(facts) + state[16:]

    def merge(self, table, place, state):
        old = table.get(place)
        if old is None or not state_fits(state, old):
            table[place] = self.round(state if old is None else union(state, old))

    def once(self):
        """Goes through all places that have a state so far."""
        states = walk_states(self.code_file, self.notes, self.exits)
        for place, state in enumerate(states):
            if state is None:
                continue
            if self.code[place][0] == "ret":
                self.merge(self.exits, max(first for first in self.firsts if first <= place), state)
            for following, after, _ in goes_to(self.layout, self.code, place, state, self.exits):
                if following in self.noted:
                    self.merge(self.notes, following, after)

    def work(self):
        self.merge(self.notes, 0, START)
        before = None
        while before != (self.notes, self.exits):
            before = (dict(self.notes), dict(self.exits))
            self.once()


def numbers_of(code_file):
    layout, code = code_file
    found = {0, 65535} | {region[3] for region in layout}
    for place in reachable(code):
        if code[place][0] in ("set", "below"):
            found.add(code[place][2])
            if code[place][0] == "below" and code[place][2] > 0:
                found.add(code[place][2] - 1)
    return found


def annotate(code_file):
    work = Annotator(code_file)
    work.work()
    notes = tuple(sorted(work.notes.items()))
    states = walk_states(code_file, work.notes, work.exits)
    levels = routine_levels(code_file, work.firsts, states)
    return (tuple((first, levels[first], work.exits[first]) for first in work.firsts), notes)


def routine_levels(code_file, firsts, states):
    code = code_file[1]
    callees = {first: set() for first in firsts}
    for place, state in enumerate(states):
        instruction = code[place]
        if state is not None and instruction[0] == "call" and instruction[1] < len(code):
            callees[max(first for first in firsts if first <= place)].add(instruction[1])
    levels = {first: 0 for first in firsts}
    for _ in range(20):
        levels = {first: min(16, max([levels[other] + 1 for other in callees[first]], default=0)) for first in firsts}
    return levels


def walk_states(code_file, notes, exits):
    layout, code = code_file
    states = []
    coming = None
    for place in range(len(code)):
        state = notes.get(place, coming)
        states.append(state)
        coming = None
        if state is not None:
            for _, after, named_one in goes_to(layout, code, place, state, exits):
                if not named_one:
                    coming = after
    return states


def check_code(code_file, certificate):
    return Judge(code_file, certificate).bound()


def judge(code_file):
    return check_code(code_file, annotate(code_file))


class Judge:
    def __init__(self, code_file, certificate):
        self.layout, self.code = code_file
        routines, notes = certificate
        self.notes = dict(notes)
        self.firsts = [routine[0] for routine in routines]
        self.levels = {first: level for first, level, _ in routines}
        self.exits = {first: leaving for first, _, leaving in routines}
        if 0 not in self.notes or not state_fits(START, self.notes[0]):
            raise BadCode(0, "note")
        self.states = walk_states(code_file, self.notes, self.exits)
        self.owner = []
        for place in range(len(self.code)):
            self.owner.append(place if place in self.exits else self.owner[-1])

    def reached(self):
        return [place for place, state in enumerate(self.states) if state is not None]

    def bound(self):
        for place in self.reached():
            self.check_place(place, self.states[place])
        return self.count(self.loops())

    def check_place(self, place, state):
        instruction = self.code[place]
        name = instruction[0]
        watched = {"below": instruction[1:2], "div": instruction[2:], "load": instruction[2:3],
                   "store": instruction[2:3]}.get(name, ())
        if any(state[register][0] == "secret" for register in watched):
            raise BadCode(place, "flow")
        if name in ("load", "store"):
            region = region_of(self.layout, *addresses(state, instruction))
            if region is None:
                raise BadCode(place, "address")
            if name == "store":
                flow, _, greatest, _, _ = state[instruction[1]]
                if flow == "secret" and region[2] == "public":
                    raise BadCode(place, "flow")
                if greatest > region[3]:
                    raise BadCode(place, "range")
        for following, after, named_one in goes_to(self.layout, self.code, place, state, self.exits):
            self.check_way(place, following, after, named_one)
        if name == "ret":
            leaving = self.exits[self.owner[place]]
            if leaving is None or not state_fits(state, leaving):
                raise BadCode(place, "note")

    def check_way(self, place, following, after, named_one):
        instruction = self.code[place]
        if following >= len(self.code):
            raise BadCode(place, "place")
        entering = instruction[0] == "call" and named_one
        if entering and following not in self.exits or not entering and self.owner[following] != self.owner[place]:
            raise BadCode(place, "routine")
        if entering and self.levels[following] >= self.levels[self.owner[place]]:
            raise BadCode(place, "level")
        if following in self.notes:
            if not state_fits(after, self.notes[following]):
                raise BadCode(place, "note")
        elif named_one:
            raise BadCode(place, "note")

    def loops(self):
        """The loops with their turns."""
        found = []
        for z in self.reached():
            instruction = self.code[z]
            jumps = instruction[0] == "jump" or (
                instruction[0] == "below" and self.states[z][instruction[1]][1] < instruction[2])
            if not jumps or instruction[-1] > z:
                continue
            p = instruction[-1]
            t = z - 1
            turns = None
            if t >= p and z not in self.notes:
                turns = self.turns(p, t, z)
            if turns is None:
                raise BadCode(z, "loop")
            for first, last, _ in found:
                if first <= z and p <= last and not (p <= first and last <= z):
                    raise BadCode(z, "loop")
            found.append((p, z, turns))
        return found

    def turns(self, p, t, z):
        instruction = self.code[t]
        if self.states[t] is None:
            return None
        if instruction[0] == "store":
            least, greatest = addresses(self.states[t], instruction)
            fact = self.states[t][instruction[1]]
            if least != greatest or fact[3] != least or fact[4] < 1 or self.other_store(p, t, z, least):
                return None
            return region_of(self.layout, least, least)[3]
        if instruction[0] == "add" and instruction[2] != instruction[3] and instruction[1] in instruction[2:]:
            other = instruction[3] if instruction[1] == instruction[2] else instruction[2]
            step = self.states[t][other]
            total = step[1] + self.states[t][instruction[1]][2]
            if step[1] != step[2] or step[1] < 1 or total > 65535:
                return None
            for place in range(p, z + 1):
                other = self.code[place]
                if self.states[place] is None or place == t:
                    continue
                if other[0] == "call" or other[0] in SETTING and other[1] == instruction[1]:
                    return None
            if self.code[z][0] == "below" and self.code[z][1] == instruction[1]:
                return self.code[z][2] - 1
            return total
        return None

    def other_store(self, p, t, z, address):
        places = set(range(p, z + 1))
        waiting = [place for place in places]
        while waiting:
            place = waiting.pop()
            if self.states[place] is not None and self.code[place][0] == "call":
                first = self.code[place][1]
                for other in range(first, len(self.code)):
                    if self.owner[other] == first and other not in places:
                        places.add(other)
                        waiting.append(other)
        for place in places:
            if self.states[place] is not None and self.code[place][0] == "store" and place != t:
                least, greatest = addresses(self.states[place], self.code[place])
                if least <= address <= greatest:
                    return True
        return False

    def count(self, loops):
        totals = {}
        for first in sorted(self.firsts, key=lambda one: self.levels[one]):
            totals[first] = 0
            for place in self.reached():
                if self.owner[place] == first:
                    visits = 1
                    for p, z, turns in loops:
                        if p <= place <= z:
                            visits *= turns + 1
                    more = totals[self.code[place][1]] if self.code[place][0] == "call" else 0
                    totals[first] += visits * (1 + more)
        return totals[0]
