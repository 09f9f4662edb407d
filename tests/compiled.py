"""What the tests of the compiler share."""

import unittest

from quietsmith.annotate import annotate
from quietsmith.checker import check_program
from quietsmith.compiler import compile_program
from quietsmith.forms import check_shape
from quietsmith.judge import judge
from quietsmith.layouts import is_code_file, is_memory, region_at
from quietsmith.limbs import words_of
from quietsmith.machine import Machine
from quietsmith.meaning import run_program
from quietsmith.running import load, outputs_of
from tests import judging

STEPS = 3000000
# Up to this many instructions, the second writing of the judge is asked too, which is slow.
FEW = 600


def run(program, binary, inputs):
    """The machine after the whole run of a binary."""
    machine = Machine(binary[:2], load(program, binary, inputs))
    machine.run(STEPS)
    return machine


class CompiledCase(unittest.TestCase):
    def compiled(self, program):
        """The binary of a program, of which everything is right that can be seen without a run."""
        check_program(check_shape(program))
        binary = compile_program(program)
        self.assertIs(type(binary), tuple)
        layout, code, inputs, outputs = binary
        self.assertIs(is_code_file((layout, code)), True)
        self.assertEqual(compile_program(program), binary)
        self.check_addresses(program[-1][1], inputs, layout)
        self.check_addresses(program[-1][2], outputs, layout)
        taken = []
        for variable, start in zip(program[-1][1] + program[-1][2], inputs + outputs):
            taken.extend(range(start, start + self.words(variable)))
        self.assertEqual(len(taken), len(set(taken)))
        return binary

    def judged(self, code_file):
        """The bound of a code, which the judge takes."""
        bound = judge(code_file)
        if len(code_file[1]) <= FEW:
            self.assertEqual(judging.check_code(code_file, annotate(code_file)), bound)
        return bound

    def words(self, variable):
        return words_of(variable[2]) * max(1, variable[3])

    def check_addresses(self, variables, starts, layout):
        """The variables lie in regions of their flow."""
        self.assertIs(type(starts), tuple)
        self.assertEqual(len(starts), len(variables))
        for variable, start in zip(variables, starts):
            self.assertIs(type(start), int)
            for address in range(start, start + self.words(variable)):
                index = region_at(layout, address)
                self.assertGreaterEqual(index, 0)
                self.assertEqual(layout[index][2], variable[1])

    def agrees(self, program, *rows, judged=True):
        """The code gives what the program means, for all these inputs, and shows no more than it may."""
        binary = self.compiled(program)
        bound = self.judged(binary[:2]) if judged else STEPS
        seen = {}
        for inputs in rows:
            memory = load(program, binary, inputs)
            self.assertIs(is_memory(binary[0], memory), True)
            machine = run(program, binary, inputs)
            self.assertIs(machine.ended(), True)
            self.assertEqual(binary[1][machine.place()], ("halt",))
            self.assertEqual(outputs_of(program, binary, machine.memory()), run_program(program, inputs), inputs)
            shown = machine.shown()
            self.assertLessEqual(len(shown), bound)
            public = tuple(value for variable, value in zip(program[-1][1], inputs) if variable[1] == "public")
            self.assertEqual(seen.setdefault(public, shown), shown, inputs)
        return binary
