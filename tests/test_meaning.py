import random
import unittest

from quietsmith.checker import check_program
from quietsmith.errors import BadInput
from quietsmith.meaning import run_program
from quietsmith.syntax import parse_program
from quietsmith.values import MOST
from tests.helpers import WRONG_INPUTS, read, refusal

BIG = 2 ** 255

# Each expression over a and b, with rows of their values and of the value of the expression.
# All greatest values of a and b are MOST.
ROWS = (
    ("low((a & 0), 9)", ((MOST, 0, 0),)),
    ("a", ((0, 0, 0), (7, 0, 7), (MOST, 0, MOST))),
    ("(low(a, 255) + low(b, 255))", (
        (0, 0, 0), (1, 2, 3), (BIG - 1, BIG - 1, 2 * BIG - 2), (MOST, MOST, 2 * BIG - 2))),
    ("(low(a, 128) * low(b, 128))", (
        (0, 5, 0), (6, 7, 42), (2 ** 128 - 1, 2 ** 128 - 1, (2 ** 128 - 1) ** 2))),
    ("(a - b : 255)", ((5, 3, 2), (3, 5, MOST - 1), (0, MOST, 1), (MOST, 0, MOST), (0, 0, 0))),
    ("(a - b : 0)", ((5, 3, 0), (5, 4, 1), (4, 5, 1), (0, MOST, 1))),
    ("(a - b : 7)", ((5, 3, 2), (3, 5, 254), (0, 256, 0), (1000, 0, 232))),
    ("(a < b)", ((0, 0, 0), (0, 1, 1), (1, 0, 0), (MOST - 1, MOST, 1), (MOST, MOST, 0))),
    ("(a == b)", ((0, 0, 1), (0, 1, 0), (MOST, MOST, 1), (MOST, MOST - 1, 0))),
    ("(a & b)", ((12, 10, 8), (MOST, 5, 5), (BIG, BIG - 1, 0))),
    ("(a | b)", ((12, 10, 14), (MOST, 5, MOST), (BIG, BIG - 1, MOST), (0, 0, 0))),
    ("(a ^ b)", ((12, 10, 6), (MOST, MOST, 0), (MOST, 0, MOST))),
    ("(a >> 0)", ((MOST, 0, MOST), (5, 0, 5))),
    ("(a >> 3)", ((7, 0, 0), (8, 0, 1), (MOST, 0, MOST // 8))),
    ("(a >> 255)", ((MOST, 0, 1), (BIG, 0, 1), (BIG - 1, 0, 0))),
    ("(low(a, 100) << 0)", ((5, 0, 5),)),
    ("(low(a, 100) << 156)", ((5, 0, 5 * 2 ** 156), (2 ** 100 - 1, 0, MOST - 2 ** 156 + 1))),
    ("(low(a, 1) << 255)", ((1, 0, BIG), (0, 0, 0))),
    ("low(a, 0)", ((MOST, 0, 0), (0, 0, 0))),
    ("low(a, 4)", ((15, 0, 15), (16, 0, 0), (MOST, 0, 15))),
    ("low(a, 255)", ((MOST, 0, BIG - 1), (BIG, 0, 0))),
    ("bit(a, 0)", ((5, 0, 1), (4, 0, 0))),
    ("bit(a, 2)", ((5, 0, 1), (3, 0, 0))),
    ("bit(a, 255)", ((MOST, 0, 1), (BIG, 0, 1), (BIG - 1, 0, 0))),
    ("pick((a < b), 7, 8)", ((1, 2, 7), (2, 1, 8))),
    ("pick((a == b), a, (b >> 1))", ((6, 6, 6), (5, 6, 3))),
    ("addmod(low(a, 3), low(b, 3), 8)", ((7, 7, 6), (3, 4, 7), (4, 4, 0), (0, 0, 0))),
    ("submod(low(a, 3), low(b, 3), 10)", ((7, 7, 0), (3, 4, 9), (0, 7, 3), (7, 0, 7))),
    ("mulmod(low(a, 3), low(b, 3), 9)", ((7, 7, 4), (3, 3, 0), (0, 5, 0), (2, 4, 8))),
    ("addmod(low(a, 255), low(b, 255), " + str(MOST) + ")", (
        (BIG - 1, BIG - 1, MOST - 1), (BIG - 1, 5, BIG + 4))),
    ("submod(low(a, 255), low(b, 255), " + str(MOST) + ")", ((0, BIG - 1, MOST - BIG + 1), (0, 0, 0))),
    ("mulmod(low(a, 255), low(b, 255), " + str(MOST) + ")", (
        (BIG - 1, BIG - 1, (BIG - 1) ** 2 % MOST), (BIG - 1, 1, BIG - 1))),
    ("0", ((MOST, 1, 0),)),
    (str(MOST), ((0, 0, MOST),)),
    ("((a < b) + ((b < a) << 1))", ((1, 2, 1), (2, 1, 2), (2, 2, 0))),
)


class MeaningTest(unittest.TestCase):
    def gives(self, program, inputs, outputs):
        check_program(program)
        got = run_program(program, inputs)
        self.assertEqual(got, outputs)
        self.assertIsInstance(got, tuple)
        for value in got:
            self.assertIn(type(value), (int, tuple))

    def body_gives(self, statements, outputs, inputs=(), **more):
        self.gives(read(statements, **more), inputs, outputs)

    def refused(self, program, inputs):
        self.assertIsNotNone(refusal(BadInput, run_program, program, inputs), inputs)

    def test_example(self):
        program = parse_program(
            "fun f(secret x 9) to (secret y 45) { loop k 1 to 5 { y = low((y + x), 5); } }")
        self.gives(program, (9,), (13,))

    def test_expressions(self):
        params = f"public a {MOST}, public b {MOST}"
        for text, rows in ROWS:
            for a, b, value in rows:
                self.body_gives(f"y = {text};", (value,), (a, b), params=params, results=f"public y {MOST}")
                self.body_gives(f"y[2] = {text};", ((0, 0, value),), (a, b), params=params,
                                results=f"secret y {MOST} [3]")

    def test_items(self):
        row = tuple(range(10, 74))
        params = "secret r 99 [64], public k 63"
        for k in (0, 1, 62, 63):
            self.body_gives("y = r[k];", (10 + k,), (row, k), params=params, results="secret y 99")
        self.body_gives("y = q[q[q[0]]];", (2,), ((1, 3, 0, 2),), params="public q 3 [4]")
        self.body_gives("y = r[0];", (5,), ((5,),), params="secret r 9 [1]")

    def test_set_and_put(self):
        self.body_gives("y = 1; y = low((y + 1), 3); y = low((y * 3), 3);", (6,))
        self.body_gives("y[0] = 7; y[2] = 9; y[0] = 8;", ((8, 0, 9),), results="secret y 9 [3]")
        self.body_gives("y[0] = 3; y[1] = y[0]; y[y[0]] = 2;", ((3, 3, 0, 2),), results="public y 3 [4]")
        self.body_gives("y[63] = 9;", ((0,) * 63 + (9,),), results="secret y 9 [64]")

    def test_params_that_get_values(self):
        self.body_gives("x = 7; y = x;", (7,), (3,), params="secret x 9")
        self.body_gives("x[1] = 7; y = x[1];", (7,), ((3, 4),), params="secret x 9 [2]")
        inputs = ((3, 4),)
        self.body_gives("x[1] = 7;", (0,), inputs, params="secret x 9 [2]")
        self.assertEqual(inputs, ((3, 4),))

    def test_zero_at_first(self):
        self.body_gives("", (0,))
        self.body_gives("", (0, (0, 0, 0)), results="secret y 9, public z 9 [3]")
        self.body_gives("y = (t + u[1]);", (0,), others="var secret t 4; var secret u 5 [2];")

    def test_loops(self):
        self.body_gives("loop k 5 to 5 { y = k; }", (5,))
        self.body_gives("loop k 3 to 7 { y[k] = k; }", ((0, 0, 0, 3, 4, 5, 6, 7, 0),), results="secret y 9 [9]")
        self.body_gives("loop k 0 to 1023 { y = low((y + k), 32); }", (523776,), results=f"secret y {2 ** 33}")
        self.body_gives("loop k 1023 to 1023 { y = k; }", (1023,), results="secret y 1023")
        self.body_gives("y = 4; loop k 0 to 9 { }", (4,))
        self.body_gives("loop k 1 to 3 { loop l 4 to 6 { y = low((y + (k * l)), 9); } }", (90,),
                        results="secret y 511")
        self.body_gives("loop k 1 to 3 { y = k; } loop k 7 to 8 { y = low((y + k), 5); }", (18,),
                        results="secret y 31")

    def test_order_of_turns(self):
        self.body_gives("loop k 1 to 4 { y = low(((y * 10) + k), 16); }", (1234,), results="secret y 65535")

    def test_many_empty_turns(self):
        inner = "loop l 0 to 1023 { } " * 18
        self.body_gives("loop k 0 to 1023 { " + inner + "} y = 5;", (5,))

    def test_ifs(self):
        statements = "if x { y = 1; } else { y = 2; }"
        for value, outcome in ((0, 2), (1, 1), (2, 1), (MOST, 1)):
            self.body_gives(statements, (outcome,), (value,), params=f"public x {MOST}")
        self.body_gives("y = 5; if x { } else { y = 2; }", (5,), (1,), params="public x 1")
        self.body_gives("y = 5; if x { y = 2; } else { }", (5,), (0,), params="public x 1")
        self.body_gives("if x { y = 1; y = low((y + 3), 3); } else { y = 2; } y = low((y * 2), 4);", (8,), (3,),
                        params="public x 9", results="secret y 15")

    def test_calls(self):
        text = (
            "fun g(secret a 9, public b 9) to (secret s 18, public t 9) { s = (a + b); t = b; a = 0; } "
            "fun f(secret x 9, public a 9) to (secret y 18, public z 9, secret o 9) "
            "{ (y, z) = g(x, a); o = x; }")
        self.gives(parse_program(text), (3, 4), (7, 4, 3))
        self.gives(parse_program(text.replace("g(x, a)", "g((x & 1), 6)")), (3, 4), (7, 6, 3))

    def test_variables_of_calls(self):
        """Each call begins with variables of its own."""
        text = (
            "fun g(secret a 9) to (secret y 9) { var secret t 9; y = low((t + (y + a)), 3); t = 5; } "
            "fun f() to (secret y 9, secret a 9) { var secret t 9; t = 6; a = 7; "
            "(y) = g(2); (y) = g(3); a = low((a + t), 4); }")
        self.gives(parse_program(text.replace("a 9) { var", "a 15) { var")), (), (3, 13))

    def test_targets_in_order(self):
        text = (
            "fun g() to (secret a 9, secret b 9, secret c 9 [2], secret d 9) "
            "{ a = 1; b = 2; c[0] = 3; c[1] = 4; d = 5; } "
            "fun f() to (secret y 9, secret x 9, secret r 9 [2], secret z 9) { (x, y, r, z) = g(); }")
        self.gives(parse_program(text), (), (2, 1, (3, 4), 5))

    def test_targets_that_are_arguments(self):
        text = (
            "fun swap(secret a 9, secret b 9) to (secret c 9, secret d 9) { c = b; d = a; } "
            "fun f(secret x 9, secret y 9) to (secret p 9, secret q 9) "
            "{ p = x; q = y; (p, q) = swap(p, q); }")
        self.gives(parse_program(text), (3, 8), (8, 3))

    def test_arrays_in_calls(self):
        text = (
            "fun turn(secret a 9 [3]) to (secret b 9 [3]) "
            "{ loop k 0 to 1 { b[low((k + 1), 1)] = a[k]; } b[2] = a[1]; b[0] = a[2]; a[0] = 0; a[1] = 0; } "
            "fun f(secret x 9 [3]) to (secret y 9 [3], secret z 9 [3]) { ")
        self.gives(parse_program(text + "(y) = turn(x); (z) = turn(y); }"), ((1, 2, 3),), ((3, 1, 2), (2, 3, 1)))
        self.gives(parse_program(text + "(z) = turn(x); (x) = turn(x); (y) = turn(x); }"), ((1, 2, 3),),
                   ((2, 3, 1), (3, 1, 2)))
        self.gives(parse_program(text + "(x) = turn(x); (x) = turn(x); loop k 0 to 2 { y[k] = x[k]; } }"),
                   ((1, 2, 3),), ((2, 3, 1), (0, 0, 0)))

    def test_calls_in_calls(self):
        text = (
            "fun a(secret x 9) to (secret y 10) { y = (x + 1); } "
            "fun b(secret x 8) to (secret y 11) { var secret t 10; (t) = a(x); y = (t + 1); } "
            "fun f(secret x 8) to (secret y 31) { var secret s 11; var secret t 10; "
            "(t) = a(x); (s) = b(x); y = low((s + t), 5); loop k 0 to 2 { (t) = a(k); y = low((y + t), 5); } }")
        self.gives(parse_program(text), (4,), (17,))

    def test_last_function_is_the_main_function(self):
        text = "fun g() to (secret y 9) { y = 1; } fun f(secret x 9) to (secret y 9) { y = x; }"
        self.gives(parse_program(text), (6,), (6,))

    def test_outputs_in_order(self):
        self.body_gives("b = 2; a = 1; c[1] = 3;", (1, (0, 3), 2),
                        results="secret a 9, secret c 9 [2], public b 9")

    def test_inputs(self):
        program = read("y = x;", params="secret x 9, public r 5 [2], secret z 0")
        self.gives(program, (9, (0, 5), 0), (9,))
        self.gives(program, (0, (5, 0), 0), (0,))
        for inputs in WRONG_INPUTS:
            self.refused(program, inputs)

    def test_no_inputs(self):
        program = read("y = 3;")
        self.gives(program, (), (3,))
        for inputs in ((0,), [], None, 0, ((),)):
            self.refused(program, inputs)

    def test_greatest_inputs(self):
        program = read("y = x;", params=f"secret x {MOST}, secret r {MOST} [64]", results=f"secret y {MOST}")
        self.gives(program, (MOST, (MOST,) * 64), (MOST,))
        self.refused(program, (MOST + 1, (MOST,) * 64))
        self.refused(program, (MOST, (MOST,) * 63 + (MOST + 1,)))
        self.refused(program, (MOST, (MOST,) * 65))

    def test_square_and_multiply(self):
        program = parse_program(
            "fun f(secret x 1008, secret e 65535) to (secret y 1008) { y = 1; loop k 0 to 15 { "
            "y = mulmod(y, y, 1009); y = pick(bit(e, (15 - k : 3)), mulmod(y, x, 1009), y); } }")
        numbers = random.Random(3)
        for _ in range(20):
            x, e = numbers.randrange(1009), numbers.randrange(65536)
            self.gives(program, (x, e), (pow(x, e, 1009),))


if __name__ == "__main__":
    unittest.main()
