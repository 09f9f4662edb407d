"""The whole road, from the text of a program to its run on the machine, and the promises of point 3."""

import unittest

from quietsmith.annotate import annotate
from quietsmith.builders import inverse_program, ladder_program, power_program
from quietsmith.certificates import is_certificate
from quietsmith.checker import check_program
from quietsmith.compiler import compile_program
from quietsmith.forms import check_shape
from quietsmith.judge import check_code, judge, states_of
from quietsmith.layouts import is_code_file, region_at
from quietsmith.limbs import words_of
from quietsmith.listing import code_text, parse_code
from quietsmith.machine import Machine
from quietsmith.meaning import run_program
from quietsmith.printing import program_text
from quietsmith.running import load, outputs_of, run_compiled
from quietsmith.simplifying import simplify
from quietsmith.syntax import parse_program
from quietsmith.tidying import tidy
from tests.programs import Programs

STEPS = 400000

TEXTS = (
    "fun f(secret x 9, public y 9) to (secret z 18) { z = (x + y); }",
    "fun f(public n 7, secret x 99 [8]) to (secret y 99, public m 8) "
    "{ m = (n + 1); if (n < 4) { y = x[n]; } else { loop k 0 to 7 { y = pick((x[k] < y), y, x[k]); } } }",
    "fun half(secret x 70000) to (secret y 35000) { y = (x >> 1); } "
    "fun f(secret x 70000, public n 3) to (secret y 70000 [4]) "
    "{ y[0] = x; loop k 1 to 3 { (x) = half(x); if (n < k) { y[k] = x; } else { y[n] = (x & 255); } } }",
    "fun f(secret a 340282366920938463463374607431768211455, secret b 340282366920938463463374607431768211455) "
    "to (secret c 340282366920938463463374607431768211455, secret d 1) "
    "{ c = (a - b : 127); d = (a < b); c = pick(d, (c ^ a), (c | b)); }",
)


class RoadCase(unittest.TestCase):
    def travel(self, program, *rows):
        """All that can be done with a program, for inputs that are told in rows with the same public ones."""
        self.assertEqual(parse_program(program_text(program)), program)
        check_program(check_shape(program))
        simpler = simplify(program)
        for one in (program, simpler):
            binary = compile_program(one)
            code_file = binary[:2]
            self.assertIs(is_code_file(code_file), True)
            self.assertEqual(parse_code(code_text(code_file)), code_file)
            shorter = parse_code(code_text(tidy(code_file)))
            bounds = [self.bound(code_file), self.bound(shorter)]
            self.assertLessEqual(bounds[1], bounds[0])
            self.check_addresses(one, binary)
            for same in rows:
                self.check_runs(program, one, binary, shorter, bounds, same)

    def bound(self, code_file):
        certificate = annotate(code_file)
        self.assertIs(is_certificate(code_file, certificate), True)
        self.assertEqual(check_code(code_file, certificate), judge(code_file))
        self.assertEqual(len(states_of(code_file, certificate)), len(code_file[1]))
        return judge(code_file)

    def check_addresses(self, program, binary):
        """Point 505, for the params and results of the main function."""
        layout, _, inputs, outputs = binary
        for variable, start in zip(program[-1][1] + program[-1][2], inputs + outputs):
            for address in range(start, start + words_of(variable[2]) * max(1, variable[3])):
                self.assertEqual(layout[region_at(layout, address)][2], variable[1])

    def check_runs(self, program, compiled, binary, shorter, bounds, same):
        shown = [None, None]
        for inputs in same:
            memory = load(compiled, binary, inputs)
            for at, code_file in enumerate((binary[:2], shorter)):
                machine = Machine(code_file, memory)
                steps = machine.run(STEPS)
                self.assertIs(machine.ended(), True)
                self.assertEqual(code_file[1][machine.place()], ("halt",))
                self.assertLessEqual(steps, bounds[at])
                self.assertEqual(outputs_of(compiled, binary, machine.memory()), run_program(program, inputs))
                shown[at] = shown[at] or machine.shown()
                self.assertEqual(machine.shown(), shown[at])
            self.assertLessEqual(len(shown[1]), len(shown[0]))
            outputs, steps, cycles = run_compiled(compiled, inputs, STEPS)
            self.assertEqual((outputs, steps, cycles), (run_program(program, inputs), len(shown[0]), shown[0][-1][2]))


class RoadTest(RoadCase):
    def test_texts(self):
        rows = (
            (((0, 3), (9, 3), (4, 3)), ((0, 0), (9, 0))),
            (((3, (1, 2, 3, 4, 5, 6, 7, 8)), (3, (99,) * 8), (3, (0,) * 8)), ((7, (9, 8, 7, 6, 5, 4, 3, 99)), (7, (0,) * 8))),
            (((70000, 2), (0, 2), (65536, 2)), ((12345, 0), (69999, 0)), ((1, 3), (65535, 3))),
            (((0, 0), (2 ** 128 - 1, 1), (1, 2 ** 128 - 1), (2 ** 127, 2 ** 64)),),
        )
        for text, same in zip(TEXTS, rows):
            self.travel(parse_program(text), *same)

    def test_random_programs(self):
        for seed in range(500, 560):
            programs = Programs(seed)
            program = programs.program()
            rows = []
            for _ in range(2):
                inputs = programs.inputs(program)
                rows.append((inputs, programs.twin(program, inputs), programs.twin(program, inputs)))
            self.travel(program, *rows)

    def test_made_programs(self):
        self.travel(power_program(101, 8), ((3, 200), (0, 0), (100, 255)))
        self.travel(power_program(2 ** 32 - 1, 17), ((3, 2 ** 17 - 1), (2 ** 32 - 2, 0)))
        self.travel(inverse_program(65537), ((3,), (0,), (65536,)))
        self.travel(ladder_program(2 ** 31 - 1, 2 ** 31 - 2, 9), ((3, 2 ** 9 - 1), (2 ** 31 - 2, 0), (0, 1)))


class ArgumentsTest(unittest.TestCase):
    """Point 100: arguments stay as they are, and lists that are returned are new."""

    def test_lists_are_new(self):
        code_file = (((0, 2, "secret", 9),), (("load", 1, 0, 0), ("halt",)))
        certificate = annotate(code_file)
        states = states_of(code_file, certificate)
        states.clear()
        self.assertEqual(len(states_of(code_file, certificate)), 2)

    def test_arguments_stay(self):
        for seed in range(20):
            program = Programs(seed).program()
            binary = compile_program(program)
            text, code = repr(program), repr(binary)
            simplify(program)
            certificate = annotate(binary[:2])
            kept = repr(certificate)
            check_code(binary[:2], certificate)
            states_of(binary[:2], certificate)
            tidy(binary[:2])
            self.assertEqual((repr(program), repr(binary), repr(certificate)), (text, code, kept))


if __name__ == "__main__":
    unittest.main()
