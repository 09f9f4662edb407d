"""The compiler.

Each function becomes one routine, and its variables always lie at the same addresses.
Behind each statement all values are in the memory; only register 0, which is always 0,
means the same everywhere.
"""

from quietsmith.allocation import write_rows
from quietsmith.assembly import ZERO, Assembly
from quietsmith.plans import PUBLIC, SECRET, Plan
from quietsmith.sheets import Sheet

# So many words are set to 0 without a loop.
FEW = 6


def compile_program(program):
    """Returns the binary of a checked program."""
    plan = Plan()
    assembly = Assembly()
    routines = {}
    called = called_functions(program)
    for function in called:
        routines[function[0]] = Routine(function, plan, assembly.new_label())
    main = called[0]
    for function in called:
        writer = Writer(plan, assembly, routines, routines[function[0]])
        writer.routine(function[4], "halt" if function == main else "ret")
    layout = plan.layout()
    atlas = plan.atlas()
    known = routines[main[0]].known
    inputs = tuple([atlas.number_at(known[variable[0]].address(0, 0)) for variable in main[1]])
    outputs = tuple([atlas.number_at(known[variable[0]].address(0, 0)) for variable in main[2]])
    return (layout, assembly.linked_code(atlas), inputs, outputs)


def called_functions(program):
    """Returns the list of the main function and all functions that it needs, the last one first."""
    names = {program[-1][0]: True}
    called = []
    for function in reversed(program):
        if function[0] in names:
            called.append(function)
            for name in calls_of(function[4]):
                names[name] = True
    return called


def calls_of(body):
    """Returns the list of the names of the functions that a body calls."""
    names = []
    for statement in body:
        if statement[0] == "call":
            names.append(statement[2])
        for inner in bodies_of(statement):
            names.extend(calls_of(inner))
    return names


def bodies_of(statement):
    """Returns the list of the bodies within a statement."""
    if statement[0] == "loop":
        return [statement[4]]
    if statement[0] == "if":
        return [statement[2], statement[3]]
    return []


def does_nothing(body):
    """Tells whether a body has no statement but loops and choices that do nothing."""
    for statement in body:
        bodies = bodies_of(statement)
        if len(bodies) == 0 or not all([does_nothing(inner) for inner in bodies]):
            return False
    return True


class Routine:
    """What is known of a function before its code is made."""

    def __init__(self, function, plan, label):
        _, self.params, self.results, others, _ = function
        self.label = label
        self.known = {variable[0]: plan.spot(variable) for variable in self.params}
        starts = [(space, plan.behind(space)) for space in (PUBLIC, SECRET)]
        for variable in self.results + others:
            self.known[variable[0]] = plan.spot(variable)
        # All variables but the params lie behind one another in their spaces.
        self.fresh = [(space, start, plan.behind(space) - start) for space, start in starts]


class Writer:
    """Writes the code of a function."""

    def __init__(self, plan, assembly, routines, routine):
        self.plan = plan
        self.assembly = assembly
        self.routines = routines
        self.own = routine
        self.known = dict(routine.known)

    def routine(self, body, last):
        """Writes the whole function, which ends with the instruction `last`."""
        self.assembly.mark(self.own.label)
        if last == "ret":
            # The main function is done only once, and finds zeros in the memory.
            for space, start, count in self.own.fresh:
                self.clear_words(space, start, count)
        self.body(body)
        self.assembly.write(last)

    def clear_words(self, space, start, count):
        """Sets so many words to 0."""
        if count <= FEW:
            for offset in range(start, start + count):
                self.assembly.write("store", ZERO, ZERO, (space, offset))
            return
        label = self.assembly.begin_turns()
        self.assembly.write("store", ZERO, 1, (space, start))
        self.assembly.end_turns(label, count)

    def body(self, body):
        """Writes the statements of a body."""
        for statement in body:
            self.statement(statement)

    def statement(self, statement):
        """Writes a statement."""
        head = statement[0]
        if head == "set":
            self.change(self.known[statement[1]], statement[2])
        elif head == "put":
            self.change_item(statement)
        elif head == "call":
            self.call(statement)
        elif not does_nothing((statement,)):
            if head == "loop":
                self.loop(statement)
            else:
                self.choice(statement)

    def sheet(self):
        """Returns a new sheet."""
        return Sheet(self.plan, self.known)

    def finish(self, sheet):
        """Writes the rows of a sheet."""
        write_rows(self.assembly, self.plan, sheet)

    def change(self, spot, value):
        """Writes that a single variable gets a value."""
        sheet = self.sheet()
        words, _ = sheet.evaluate(value)
        sheet.store(spot, 0, words)
        self.finish(sheet)

    def change_item(self, statement):
        """Writes a put."""
        _, name, index, value = statement
        spot = self.known[name]
        sheet = self.sheet()
        words, _ = sheet.evaluate(value)
        if index[0] == "int":
            sheet.store(spot, index[1], words)
        else:
            sheet.store_at(spot, index, words)
        self.finish(sheet)

    def choice(self, statement):
        """Writes an if."""
        _, condition, body, other = statement
        otherwise = self.assembly.new_label()
        sheet = self.sheet()
        words, _ = sheet.evaluate(condition)
        sheet.test(words, otherwise)
        self.finish(sheet)
        self.body(body)
        if does_nothing(other):
            self.assembly.mark(otherwise)
            return
        behind = self.assembly.new_label()
        self.assembly.write("jump", behind)
        self.assembly.mark(otherwise)
        self.body(other)
        self.assembly.mark(behind)

    def loop(self, statement):
        """Writes a loop: its variable is counted up in the memory, behind each turn but the last one."""
        _, name, first, last, body = statement
        spot = self.plan.turn(last)
        address = spot.address(0, 0)
        self.assembly.write("set", 1, first)
        self.assembly.write("store", 1, ZERO, address)
        again = self.assembly.new_label()
        further = self.assembly.new_label()
        behind = self.assembly.new_label()
        self.assembly.mark(again)
        self.known[name] = spot
        self.body(body)
        del self.known[name]
        if first == last:
            return
        self.assembly.write("set", 2, 1)
        self.assembly.write("load", 1, ZERO, address)
        self.assembly.write("below", 1, last, further)
        self.assembly.write("jump", behind)
        self.assembly.mark(further)
        self.assembly.write("add", 1, 1, 2)
        self.assembly.write("store", 1, ZERO, address)
        self.assembly.write("jump", again)
        self.assembly.mark(behind)

    def call(self, statement):
        """Writes a call."""
        _, names, name, arguments = statement
        callee = self.routines[name]
        for argument, param in zip(arguments, callee.params):
            spot = callee.known[param[0]]
            if spot.size > 0:
                self.copy_items(self.known[argument[1]], spot)
            else:
                self.change(spot, argument)
        self.assembly.write("call", callee.label)
        for target, result in zip(names, callee.results):
            source = callee.known[result[0]]
            if source.size > 0:
                self.copy_items(source, self.known[target])
            else:
                self.copy_single(source, self.known[target])

    def copy_single(self, source, spot):
        """Writes that a single variable gets the value of another one."""
        sheet = self.sheet()
        sheet.store(spot, 0, sheet.stored(source, 0))
        self.finish(sheet)

    def copy_items(self, source, spot):
        """Writes that an array gets the items of another one, whose items have no more words than its own."""
        if source.width == spot.width:
            count = source.size * source.width
            label = self.assembly.begin_turns()
            self.copy_words(1, source.address(0, 0), 1, spot.address(0, 0))
        else:
            count = source.size
            label = self.assembly.begin_turns()
            self.assembly.write("set", 4, source.width)
            self.assembly.write("mul", 4, 4, 1)
            self.assembly.write("set", 5, spot.width)
            self.assembly.write("mul", 5, 5, 1)
            for at in range(source.width):
                self.copy_words(4, source.address(0, at), 5, spot.address(0, at))
            for at in range(source.width, spot.width):
                self.assembly.write("store", ZERO, 5, spot.address(0, at))
        self.assembly.end_turns(label, count)

    def copy_words(self, place, address, other, other_address):
        """Writes that a word in the memory is copied; the registers have what is added to the addresses."""
        self.assembly.write("load", 3, place, address)
        self.assembly.write("store", 3, other, other_address)
