"""What the rows of a sheet read, and which of them are needed."""

from quietsmith.words import CARRYING, CHAINED, SHIFTS

# The rows that set no register which other rows can read.
WITHOUT_RESULT = ("mask", "scale", "hold", "give", "aim", "test")


def reads(row):
    """Returns the list of the registers that a row reads, each one once."""
    head = row[0]
    if head in ("set", "carry", "take"):
        return []
    if head == "mask":
        return without_twins(row[1:])
    if head in WITHOUT_RESULT:
        return [row[1]]
    if head in SHIFTS:
        return [row[2]]
    return without_twins(row[2:])


def without_twins(pair):
    """Returns the list of two registers, or of one if they are the same."""
    return [pair[0]] if pair[0] == pair[1] else list(pair)


def later_reads(rows):
    """Returns for each register the indices of the rows that read it, the last one first."""
    later = {}
    for index in range(len(rows) - 1, -1, -1):
        for reg in reads(rows[index]):
            later.setdefault(reg, []).append(index)
    return later


def needed_rows(rows):
    """Returns the rows without those whose results nothing reads."""
    wants = Wants()
    needed = []
    for row in reversed(rows):
        if wants.has_use_for(row):
            wants.pass_row(row)
            needed.append(row)
    needed.reverse()
    return needed


class Wants:
    """What is read by the rows behind a row: registers, the carry, and the place in an array."""

    def __init__(self):
        self.registers_wanted = {}
        self.carry_wanted = False
        self.place_wanted = False

    def has_use_for(self, row):
        """Tells whether the rows behind this one read something that it makes."""
        head = row[0]
        if head in ("mask", "scale"):
            return self.place_wanted
        if head in WITHOUT_RESULT or row[1] in self.registers_wanted:
            return True
        return self.carry_wanted and head in CARRYING

    def pass_row(self, row):
        """Goes before a row that is needed."""
        head = row[0]
        for reg in reads(row):
            self.registers_wanted[reg] = True
        if head in CARRYING:
            self.carry_wanted = head in CHAINED
        elif head == "carry":
            self.carry_wanted = True
        elif head == "mask":
            self.place_wanted = False
        elif head in ("take", "aim"):
            self.place_wanted = True
