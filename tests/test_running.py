import random
import unittest

from quietsmith.compiler import compile_program
from quietsmith.errors import BadCode, BadInput, BadRun
from quietsmith.layouts import is_memory, layout_end
from quietsmith.limbs import words_of
from quietsmith.machine import Machine
from quietsmith.meaning import run_program
from quietsmith.running import load, outputs_of, run_compiled
from quietsmith.values import MOST
from tests.helpers import WRONG_INPUTS, read, refusal
from tests.programs import Programs

SIMPLE = read("y = x;", params="secret x 9, public r 5 [2], secret z 0")


class LoadTest(unittest.TestCase):
    def test_words(self):
        program = read("y = 1;", params=f"secret x {MOST}, public r 70000 [3], secret z 0, public k 65535, secret q 9 [2]")
        binary = compile_program(program)
        inputs = (MOST - 5, (0, 70000, 65536), 0, 65535, (9, 8))
        memory = load(program, binary, inputs)
        self.assertIs(type(memory), list)
        self.assertIs(is_memory(binary[0], memory), True)
        self.assertEqual(len(memory), layout_end(binary[0]))
        starts = binary[2]
        self.assertEqual(memory[starts[0]:starts[0] + 16], [65530] + [65535] * 15)
        self.assertEqual(memory[starts[1]:starts[1] + 6], [0, 0, 4464, 1, 0, 1])
        self.assertEqual(memory[starts[2]], 0)
        self.assertEqual(memory[starts[3]], 65535)
        self.assertEqual(memory[starts[4]:starts[4] + 2], [9, 8])
        self.assertEqual(sum(word > 0 for word in memory), 16 + 3 + 1 + 2)

    def test_zeros(self):
        for program in (SIMPLE, read("y = 3;"), read("y = x;", params=f"secret x {MOST}",
                                                     results=f"secret y {MOST}")):
            inputs = tuple((0,) * variable[3] if variable[3] else 0 for variable in program[-1][1])
            binary = compile_program(program)
            memory = load(program, binary, inputs)
            self.assertEqual(memory, [0] * layout_end(binary[0]))

    def test_memories_are_new(self):
        binary = compile_program(SIMPLE)
        one = load(SIMPLE, binary, (3, (1, 2), 0))
        one[0] += 1
        self.assertNotEqual(load(SIMPLE, binary, (3, (1, 2), 0)), one)

    def test_wrong_inputs(self):
        binary = compile_program(SIMPLE)
        for inputs in WRONG_INPUTS:
            self.assertIsNotNone(refusal(BadInput, load, SIMPLE, binary, inputs), inputs)
            self.assertIsNotNone(refusal(BadInput, run_compiled, SIMPLE, inputs, 1000), inputs)
            self.assertIsNotNone(refusal(BadInput, run_compiled, SIMPLE, inputs, 0), inputs)
        for inputs in ((9, (0, 5), 0), (0, (5, 0), 0)):
            self.assertEqual(run_compiled(SIMPLE, inputs, 1000)[0], inputs[:1])

    def test_no_inputs(self):
        program = read("y = 3;")
        binary = compile_program(program)
        self.assertEqual(load(program, binary, ()), [0] * layout_end(binary[0]))
        for inputs in ((0,), [], None, 0, ((),)):
            self.assertIsNotNone(refusal(BadInput, load, program, binary, inputs))


class OutputsTest(unittest.TestCase):
    def test_outputs(self):
        program = read("", results=f"secret y {MOST}, public r 70000 [3], public k 65535, secret q 9 [1]")
        binary = compile_program(program)
        memory = [0] * layout_end(binary[0])
        self.assertEqual(outputs_of(program, binary, memory), (0, (0, 0, 0), 0, (0,)))
        starts = binary[3]
        memory[starts[0]:starts[0] + 16] = range(1, 17)
        memory[starts[1]:starts[1] + 6] = [7, 0, 4464, 1, 0, 1]
        memory[starts[2]] = 65535
        memory[starts[3]] = 9
        before = list(memory)
        self.assertEqual(outputs_of(program, binary, memory), (
            sum(at + 1 << 16 * at for at in range(16)), (7, 70000, 65536), 65535, (9,)))
        self.assertEqual(memory, before)

    def test_outputs_that_are_not_ready(self):
        """The outputs are what stands in a memory, also in the middle of a run."""
        program = read("loop k 1 to 3 { y = k; }")
        binary = compile_program(program)
        machine = Machine(binary[:2], load(program, binary, ()))
        seen = []
        while machine.step():
            seen.append(outputs_of(program, binary, machine.memory())[0])
        self.assertEqual(sorted(set(seen)), [0, 1, 2, 3])
        self.assertEqual(seen, sorted(seen))

    def test_kinds_of_values(self):
        outputs = run_compiled(read("y = 3; r[1] = 2;", results="secret y 9, public r 5 [2]"), (), 1000)[0]
        self.assertEqual(outputs, (3, (0, 2)))
        self.assertIs(type(outputs), tuple)
        self.assertIs(type(outputs[0]), int)
        self.assertIs(type(outputs[1]), tuple)


class RunCompiledTest(unittest.TestCase):
    def check_limits(self, program, inputs):
        """A limit that is just enough, one that is one too small, and others."""
        outputs, steps, cycles = run_compiled(program, inputs, 10 ** 6)
        self.assertEqual(outputs, run_program(program, inputs))
        binary = compile_program(program)
        machine = Machine(binary[:2], load(program, binary, inputs))
        self.assertEqual(machine.run(10 ** 7), steps)
        self.assertEqual(machine.cycles(), cycles)
        self.assertEqual(run_compiled(program, inputs, steps), (outputs, steps, cycles))
        self.assertEqual(run_compiled(program, inputs, steps + 1), (outputs, steps, cycles))
        for limit in (steps - 1, steps // 2, 1, 0):
            if limit < steps:
                self.assertEqual(refusal(BadRun, run_compiled, program, inputs, limit).reason, "limit")

    def test_limits(self):
        self.check_limits(SIMPLE, (9, (0, 5), 0))
        self.check_limits(read("y = 3;"), ())
        self.check_limits(read(""), ())
        self.check_limits(read("loop k 0 to 99 { y = low((y + k), 3); }"), ())

    def test_random_programs(self):
        for seed in range(100, 110):
            maker = Programs(seed)
            program = maker.program()
            self.check_limits(program, maker.inputs(program))

    def test_the_same_steps_for_all_secrets(self):
        program = read("y = mulmod(x, x, 1000003);", params="secret x 1000002", results="secret y 1000002")
        told = {run_compiled(program, (x,), 10000)[1:] for x in (0, 1, 1000002, 65536, 12345)}
        self.assertEqual(len(told), 1)

    def test_too_large(self):
        m = 2 ** 256 - 189
        program = read(f"y = mulmod(x, x, {m}); " * 12, params=f"secret x {m - 1}", results=f"secret y {m - 1}")
        self.assertIsNotNone(refusal(BadCode, run_compiled, program, (1,), 10 ** 6))
        self.assertIsNotNone(refusal(BadCode, run_compiled, program, None, 0))

    def test_great_numbers(self):
        numbers = random.Random(1)
        m = 2 ** 255 - 19
        program = read(f"y = mulmod(x, z, {m});", params=f"secret x {m - 1}, secret z {m - 1}", results=f"secret y {m - 1}")
        for _ in range(5):
            x, z = numbers.randrange(m), numbers.randrange(m)
            self.assertEqual(run_compiled(program, (x, z), 10 ** 5)[0], (x * z % m,))
        self.assertEqual(words_of(m), 16)


if __name__ == "__main__":
    unittest.main()
