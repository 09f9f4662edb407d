"""Gives the rows of a sheet the registers of the machine.

Register 0 is always 0, and reg 15 has the place in an array. The others are shared
by the words of the rows. If none is free, the one whose word is needed last is taken; its
word is stored in a spare word of the memory, if it is not to be had otherwise.
"""

from quietsmith.assembly import ZERO
from quietsmith.plans import PUBLIC, SECRET, flow_of

PLACE = 15
SHARED = 14
CHAINED = ("addc", "subc")
CARRYING = ("add", "addc", "sub", "subc")


def reads(row):
    """Returns the list of the registers that a row reads, each one once."""
    head = row[0]
    if head in ("set", "carry", "take"):
        return []
    if head in ("scale", "hold", "give", "aim", "test"):
        return [row[1]]
    if head == "mask":
        return without_twins(row[1:])
    if head in ("down", "up"):
        return [row[2]]
    return without_twins(row[2:])


def without_twins(pair):
    """Returns the list of one or two registers."""
    return [pair[0]] if pair[0] == pair[1] else list(pair)


def is_result(row):
    """Tells whether a row sets a register that other rows can read."""
    return row[0] not in ("mask", "scale", "hold", "give", "aim", "test")


def needed_rows(rows):
    """Returns the rows without those whose results nothing reads."""
    wanted = {}
    carry = False
    place = False
    needed = []
    for row in reversed(rows):
        head = row[0]
        if head in ("mask", "scale"):
            needs = place
            place = place and head == "scale"
        else:
            needs = not is_result(row) or row[1] in wanted or (carry and head in CARRYING)
        if needs:
            needed.append(row)
            for reg in reads(row):
                wanted[reg] = True
            place = place or head in ("take", "aim")
            if head in CARRYING:
                carry = False
            carry = carry or head == "carry" or head in CHAINED
    needed.reverse()
    return needed


def write_rows(assembly, plan, sheet):
    """Appends the instructions for the rows of a sheet."""
    rows = needed_rows(sheet.all_rows())
    allocation = Allocation(assembly, plan, sheet.homes, rows)
    for row in rows:
        allocation.write_row(row)


def later_reads(rows):
    """Returns for each register the indices of the rows that read it, the last one first."""
    later = {}
    for index in range(len(rows) - 1, -1, -1):
        for reg in reads(rows[index]):
            later.setdefault(reg, []).append(index)
    return later


class Spares:
    """The spare words of the memory that are in use."""

    def __init__(self, plan):
        self.plan = plan
        self.returned = {PUBLIC: [], SECRET: []}
        self.handed = {PUBLIC: 0, SECRET: 0}

    def hand(self, flow):
        """Returns the address of a spare word."""
        if len(self.returned[flow]) > 0:
            return self.returned[flow].pop()
        self.handed[flow] += 1
        return self.plan.spare(flow, self.handed[flow] - 1)

    def give_back(self, address):
        """Takes a spare word back."""
        self.returned[address[0]].append(address)


class Allocation:
    """The registers of the machine, and which words they have."""

    def __init__(self, assembly, plan, homes, rows):
        self.assembly = assembly
        self.homes = dict(homes)
        self.flows = {reg: flow_of(homes[reg]) for reg in homes}
        self.later = later_reads(rows)
        self.constants = {}
        self.seats = {}
        self.free = list(range(SHARED, 0, -1))
        self.spares = Spares(plan)
        self.borrowed_words = {}
        self.carry_flow = PUBLIC

    def write_row(self, row):
        """Appends the instructions for a row."""
        head = row[0]
        if head == "set":
            # A constant gets a register only where it is read.
            self.constants[row[1]] = row[2]
            self.flows[row[1]] = PUBLIC
            return
        needed = reads(row)
        for reg in needed:
            self.seat(reg, needed)
        if is_result(row):
            self.write_result(row)
            return
        self.write_other(row)
        for reg in needed:
            self.pass_read(reg)

    def write_other(self, row):
        """Appends the instruction of a row that sets no register which others can read."""
        head = row[0]
        seat = self.seats[row[1]]
        if head == "mask":
            self.assembly.write("and", PLACE, seat, self.seats[row[2]])
        elif head == "scale":
            self.assembly.write("mul", PLACE, PLACE, seat)
        elif head == "give":
            self.assembly.write("store", seat, ZERO, row[2])
        elif head == "aim":
            self.assembly.write("store", seat, PLACE, row[2])
        elif head == "test":
            self.assembly.write("below", seat, 1, row[2])
        else:
            # The word at its address will not be this one any more.
            del self.homes[row[1]]

    def write_result(self, row):
        """Appends the instruction of a row that sets a register."""
        head = row[0]
        if head == "take":
            self.flows[row[1]] = flow_of(row[2])
            self.assembly.write("load", self.new_seat(row[1]), PLACE, row[2])
        elif head == "carry":
            self.flows[row[1]] = self.carry_flow
            self.assembly.write("carry", self.new_seat(row[1]))
        else:
            needed = reads(row)
            parts = [self.seats[row[2]], row[3] if head in ("down", "up") else self.seats[row[3]]]
            self.flows[row[1]] = self.result_flow(head, needed)
            for reg in needed:
                self.pass_read(reg)
            self.assembly.write(head, self.new_seat(row[1]), parts[0], parts[1])
        if row[1] not in self.later:
            self.leave(row[1])

    def result_flow(self, head, needed):
        """Returns the flow of the result of a row that reads these registers, and of the carry behind it."""
        flows = [self.flows[reg] for reg in needed]
        if head in CHAINED:
            flows.append(self.carry_flow)
        flow = SECRET if SECRET in flows else PUBLIC
        if head in CARRYING:
            self.carry_flow = flow
        return flow

    def seat(self, reg, kept):
        """Makes sure that a register has a seat, which is a register of the machine."""
        if reg in self.seats:
            return
        if reg in self.constants and self.constants[reg] == 0:
            self.seats[reg] = ZERO
            return
        seat = self.free_seat(kept)
        self.seats[reg] = seat
        if reg in self.constants:
            self.assembly.write("set", seat, self.constants[reg])
        else:
            self.assembly.write("load", seat, ZERO, self.homes[reg])

    def new_seat(self, reg):
        """Returns a seat for a register that is set."""
        seat = self.free_seat([])
        self.seats[reg] = seat
        return seat

    def free_seat(self, kept):
        """Returns a seat that is free, or that is taken from another register than those that are kept."""
        if len(self.free) > 0:
            return self.free.pop()
        others = [other for other in self.seats if other not in kept and self.seats[other] != ZERO]
        loser = max(others, key=lambda other: self.later[other][-1])
        seat = self.seats[loser]
        if loser not in self.constants and loser not in self.homes:
            address = self.spares.hand(self.flows[loser])
            self.homes[loser] = address
            self.borrowed_words[loser] = address
            self.assembly.write("store", seat, ZERO, address)
        del self.seats[loser]
        return seat

    def pass_read(self, reg):
        """Goes behind the next row that reads a register."""
        self.later[reg].pop()
        if len(self.later[reg]) == 0:
            self.leave(reg)

    def leave(self, reg):
        """Frees what a register has that is not read any more."""
        seat = self.seats[reg]
        del self.seats[reg]
        if seat != ZERO:
            self.free.append(seat)
        if reg in self.borrowed_words:
            self.spares.give_back(self.borrowed_words[reg])
