"""Gives the rows of a sheet the registers of the machine.

Register 0 is always 0, and register 15 has the place in an array. The others are seats, which
the registers of the rows share. If none is free, the register that is read last loses its seat;
its word is stored in a spare word of the memory, if it is not to be had otherwise.
"""

from quietsmith.assembly import ZERO
from quietsmith.needs import WITHOUT_RESULT, later_reads, needed_rows, reads
from quietsmith.plans import PUBLIC, SECRET, flow_of
from quietsmith.words import CARRYING, CHAINED, SHIFTS

PLACE = 15
LAST_SEAT = 14


def write_rows(assembly, plan, sheet):
    """Appends the instructions for the rows of a sheet."""
    rows = needed_rows(sheet.all_rows())
    allocation = Allocation(assembly, Spares(plan), sheet.homes, rows)
    for row in rows:
        allocation.write_row(row)


class Spares:
    """The spare words of the memory that are in use."""

    def __init__(self, plan):
        self.plan = plan
        self.returned = {PUBLIC: [], SECRET: []}
        self.handed = {PUBLIC: 0, SECRET: 0}

    def hand_out(self, flow):
        """Returns the address of a spare word."""
        if len(self.returned[flow]) > 0:
            return self.returned[flow].pop()
        self.handed[flow] += 1
        return self.plan.spare(flow, self.handed[flow] - 1)

    def take_back(self, address):
        """Takes a spare word back."""
        self.returned[address[0]].append(address)


class Allocation:
    """Which register of the rows has which seat, and what else is known of it."""

    def __init__(self, assembly, spares, homes, rows):
        self.assembly = assembly
        self.spares = spares
        self.homes = dict(homes)
        self.lent = {}
        self.constants = {}
        self.flows = {reg: flow_of(homes[reg]) for reg in homes}
        self.carry_flow = PUBLIC
        self.later = later_reads(rows)
        self.seats = {}
        self.free = list(range(LAST_SEAT, ZERO, -1))

    def write_row(self, row):
        """Appends the instructions for a row."""
        head = row[0]
        if head == "set":
            # A constant gets a seat only where it is read.
            self.constants[row[1]] = row[2]
            self.flows[row[1]] = PUBLIC
            return
        operands = reads(row)
        for operand in operands:
            self.seat(operand, operands)
        if head in WITHOUT_RESULT:
            self.write_other(row)
            self.pass_reads(operands)
        else:
            self.write_result(row, operands)

    def write_other(self, row):
        """Appends the instruction of a row without a result."""
        head = row[0]
        seat = self.seats[row[1]]
        if head == "mask":
            self.assembly.write("and", PLACE, seat, self.seats[row[2]])
        elif head == "scale":
            self.assembly.write("mul", PLACE, PLACE, seat)
        elif head == "give":
            self.assembly.write("store", seat, ZERO, row[2])
        elif head == "aim":
            self.assembly.write("store", seat, PLACE, row[2])
        elif head == "test":
            self.assembly.write("below", seat, 1, row[2])
        else:
            # The word at its address will be another one soon.
            del self.homes[row[1]]

    def write_result(self, row, operands):
        """Appends the instruction of a row with a result."""
        head = row[0]
        result = row[1]
        if head == "take":
            self.flows[result] = flow_of(row[2])
            self.assembly.write("load", self.new_seat(result), PLACE, row[2])
        elif head == "carry":
            self.flows[result] = self.carry_flow
            self.assembly.write("carry", self.new_seat(result))
        else:
            first = self.seats[row[2]]
            second = row[3] if head in SHIFTS else self.seats[row[3]]
            self.flows[result] = self.result_flow(head, operands)
            # The result can have the seat of an operand that is read here for the last time.
            self.pass_reads(operands)
            self.assembly.write(head, self.new_seat(result), first, second)
        if result not in self.later:
            self.leave(result)

    def result_flow(self, head, operands):
        """Returns the flow of the result of an operation, which can be that of the carry behind it."""
        flows = [self.flows[operand] for operand in operands]
        if head in CHAINED:
            flows.append(self.carry_flow)
        flow = SECRET if SECRET in flows else PUBLIC
        if head in CARRYING:
            self.carry_flow = flow
        return flow

    def seat(self, reg, kept):
        """Makes sure that a register has a seat with its word; those that are kept do not lose theirs."""
        if reg in self.seats:
            return
        if self.constants.get(reg) == 0:
            self.seats[reg] = ZERO
            return
        seat = self.free_seat(kept)
        self.seats[reg] = seat
        if reg in self.constants:
            self.assembly.write("set", seat, self.constants[reg])
        else:
            self.assembly.write("load", seat, ZERO, self.homes[reg])

    def new_seat(self, reg):
        """Returns a seat for a register that gets its word now."""
        seat = self.free_seat([])
        self.seats[reg] = seat
        return seat

    def free_seat(self, kept):
        """Returns a seat that is free, or that a register loses which is not one of those that are kept."""
        if len(self.free) > 0:
            return self.free.pop()
        others = [other for other in self.seats if other not in kept and self.seats[other] != ZERO]
        loser = max(others, key=lambda other: self.later[other][-1])
        seat = self.seats[loser]
        if loser not in self.constants and loser not in self.homes:
            address = self.spares.hand_out(self.flows[loser])
            self.homes[loser] = address
            self.lent[loser] = address
            self.assembly.write("store", seat, ZERO, address)
        del self.seats[loser]
        return seat

    def pass_reads(self, operands):
        """Goes behind the next row that reads these registers."""
        for operand in operands:
            self.later[operand].pop()
            if len(self.later[operand]) == 0:
                self.leave(operand)

    def leave(self, reg):
        """Frees what a register has that is not read any more."""
        seat = self.seats[reg]
        del self.seats[reg]
        if seat != ZERO:
            self.free.append(seat)
        if reg in self.lent:
            self.spares.take_back(self.lent[reg])
