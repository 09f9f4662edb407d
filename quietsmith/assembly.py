"""Code as it is made, with labels in the place of places, and addresses of a plan."""

from quietsmith.errors import BadCode
from quietsmith.instructions import MOST_INSTRUCTIONS, targets

ZERO = 0


class Assembly:
    """The instructions so far. A label is a number that gets its place by `mark`."""

    def __init__(self):
        self.written = []
        self.marks = []

    def write(self, *instruction):
        """Appends an instruction, and refuses a code that is too large."""
        if len(self.written) == MOST_INSTRUCTIONS:
            raise BadCode(0, "large")
        self.written.append(instruction)

    def new_label(self):
        """Returns a new label."""
        self.marks.append(-1)
        return len(self.marks) - 1

    def mark(self, label):
        """Puts a label before the instruction that will be appended next."""
        self.marks[label] = len(self.written)

    def begin_turns(self):
        """Begins a loop whose turns are counted by register 1, from 0 on, and returns its label."""
        label = self.new_label()
        self.write("set", 1, 0)
        self.write("set", 2, 1)
        self.mark(label)
        return label

    def end_turns(self, label, count):
        """Ends this loop after so many turns."""
        self.write("add", 1, 1, 2)
        self.write("below", 1, count, label)

    def linked_code(self, atlas):
        """Returns the code, with the numbers of places and addresses."""
        return tuple([self.linked(instruction, atlas) for instruction in self.written])

    def linked(self, instruction, atlas):
        """Returns the instruction with its numbers."""
        if instruction[0] in ("load", "store"):
            return (*instruction[:-1], atlas.number_at(instruction[-1]))
        if len(targets(instruction)) > 0:
            return (*instruction[:-1], self.marks[instruction[-1]])
        return instruction
