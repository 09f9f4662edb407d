"""Scripts: commands that make programs and run them."""

from quietsmith.builders import inverse_program, ladder_program, power_program
from quietsmith.checker import check_program
from quietsmith.compiler import compile_program
from quietsmith.errors import BadCode, BadProgram, BadScript, BadText
from quietsmith.judge import judge
from quietsmith.layouts import layout_end
from quietsmith.machine import Machine
from quietsmith.meaning import run_program
from quietsmith.running import load, outputs_of
from quietsmith.syntax import parse_program
from quietsmith.tokens import LONGEST_NUMBER, is_number
from quietsmith.values import MOST, are_values, is_integer

LONGEST_SCRIPT = 9000
MOST_STEPS = 200000
MOST_COUNT = 255
BAR = "|"

# The numbers of words of the commands; -1 for a command with any number of them.
COMMANDS = {
    "power": 3,
    "inverse": 2,
    "ladder": 4,
    "text": -1,
    "run": -1,
    "watch": -1,
    "mean": -1,
    "size": 1,
    "judge": 1,
}


def run_script(text):
    """Returns the list of the answers to the commands of a script."""
    if not isinstance(text, str) or len(text) > LONGEST_SCRIPT:
        raise BadScript(0, "command")
    answers = []
    session = Session()
    for line in text.split("\n"):
        answer = session.answer(line)
        if answer != "":
            answers.append(answer)
    return answers


def bounds_of(name, modulus):
    """Returns the bounds of the numbers of a command that makes a program with this modulus."""
    if name == "power":
        return ((3, MOST), (1, MOST_COUNT))
    if name == "inverse":
        return ((3, MOST),)
    return ((5, MOST), (0, modulus - 1), (1, MOST_COUNT))


def values_text(values):
    """Returns the text of the values of variables."""
    texts = []
    for value in values:
        items = value if isinstance(value, tuple) else (value,)
        texts.append(",".join([str(item) for item in items]))
    return " ".join(texts)


def numbers_in(word):
    """Returns the tuple of the numbers in a word, which commas separate, or None if a part is no number."""
    parts = word.split(",")
    if not all([is_number(part, LONGEST_NUMBER) for part in parts]):
        return None
    return tuple([int(part) for part in parts])


def first_difference(shown, other):
    """Returns the first step, counted from 1, at which two runs do not show the same, or 0."""
    for index, (step, other_step) in enumerate(zip(shown, other)):
        if step != other_step:
            return index + 1
    return 0 if len(shown) == len(other) else min(len(shown), len(other)) + 1


class Session:
    """What the lines of a script have made so far."""

    def __init__(self):
        self.line = 0
        self.program = ()
        self.binary = ()

    def refuse(self, reason):
        """Raises the error of the present line."""
        raise BadScript(self.line, reason)

    def answer(self, line):
        """Returns the answer to the next line, or an empty text if the line is empty."""
        self.line += 1
        if line == "":
            return ""
        words = line.split(" ")
        name = words[0]
        if name not in COMMANDS:
            self.refuse("command")
        if COMMANDS[name] not in (-1, len(words)):
            self.refuse("words")
        if name == "text":
            return self.made_by_text(line, words)
        if name == "watch":
            return self.watched(words[1:])
        if name in ("run", "mean"):
            return self.done_with(name, words[1:])
        if name in ("size", "judge"):
            self.need_program()
            return self.told_size() if name == "size" else self.judged()
        return self.made_by_numbers(name, words[1:])

    def need_program(self):
        """Makes sure that there is a program."""
        if len(self.program) == 0:
            self.refuse("program")

    def new_program(self, program):
        """Keeps a program with its code."""
        try:
            self.binary = compile_program(program)
        except BadCode:
            self.refuse("large")
        self.program = program
        return f"made {len(self.binary[1])}"

    def made_by_text(self, line, words):
        """Answers to a line with a program."""
        if len(words) == 1:
            self.refuse("words")
        try:
            program = check_program(parse_program(line[len(words[0]) + 1:]))
        except BadText:
            self.refuse("program")
        except BadProgram:
            self.refuse("program")
        return self.new_program(program)

    def made_by_numbers(self, name, words):
        """Answers to a line with the numbers for a program."""
        if not all([is_number(word, LONGEST_NUMBER) for word in words]):
            self.refuse("number")
        numbers = [int(word) for word in words]
        bounds = bounds_of(name, numbers[0])
        right = [is_integer(number, least, most) for number, (least, most) in zip(numbers, bounds)]
        if not all(right) or numbers[0] % 2 == 0:
            self.refuse("number")
        if name == "power":
            return self.new_program(power_program(numbers[0], numbers[1]))
        if name == "inverse":
            return self.new_program(inverse_program(numbers[0]))
        return self.new_program(ladder_program(numbers[0], numbers[1], numbers[2]))

    def inputs_in(self, words):
        """Returns the inputs for the program that the words tell."""
        rows = [numbers_in(word) for word in words]
        if None in rows:
            self.refuse("number")
        self.need_program()
        params = self.program[-1][1]
        if len(rows) != len(params):
            self.refuse("input")
        inputs = []
        for param, row in zip(params, rows):
            inputs.append(row[0] if param[3] == 0 and len(row) == 1 else row)
        if not are_values(params, tuple(inputs)):
            self.refuse("input")
        return tuple(inputs)

    def machine_after(self, inputs):
        """Returns the machine after the whole run with these inputs."""
        machine = Machine(self.binary[:2], load(self.program, self.binary, inputs))
        machine.run(MOST_STEPS)
        if not machine.ended():
            self.refuse("limit")
        return machine

    def done_with(self, name, words):
        """Answers with the outputs for some values."""
        inputs = self.inputs_in(words)
        if name == "mean":
            return f"means {values_text(run_program(self.program, inputs))}"
        machine = self.machine_after(inputs)
        outputs = outputs_of(self.program, self.binary, machine.memory())
        return f"gave {values_text(outputs)}; steps {len(machine.shown())}; cycles {machine.cycles()}"

    def watched(self, words):
        """Answers whether everybody can see a difference between two runs."""
        if words.count(BAR) != 1:
            self.refuse("words")
        middle = words.index(BAR)
        inputs = self.inputs_in(words[:middle])
        others = self.inputs_in(words[middle + 1:])
        shown = self.machine_after(inputs).shown()
        step = first_difference(shown, self.machine_after(others).shown())
        return f"same {len(shown)}" if step == 0 else f"other {step}"

    def told_size(self):
        """Answers with the size of the code and of its memory."""
        layout, code, _, _ = self.binary
        return f"instructions {len(code)}; regions {len(layout)}; words {layout_end(layout)}"

    def judged(self):
        """Answers with what the judge says of the code."""
        try:
            return f"taken {judge(self.binary[:2])}"
        except BadCode as error:
            return f"refused {error.reason} at {error.index}"
