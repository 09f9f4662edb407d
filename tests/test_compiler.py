import random
import unittest

from quietsmith.compiler import compile_program
from quietsmith.errors import BadCode
from quietsmith.layouts import layout_end, region_at
from quietsmith.limbs import words_of
from quietsmith.syntax import parse_program
from quietsmith.values import MOST
from tests.compiled import CompiledCase
from tests.helpers import letters, read, refusal
from tests.programs import Programs

# Expressions over a and b; the greatest values of a and b stand before them.
EXPRESSIONS = (
    (MOST, ("a", "low(a, 0)", "low(a, 1)", "low(a, 16)", "low(a, 17)", "low(a, 255)", "(a >> 0)", "(a >> 1)", "(a >> 16)",
            "(a >> 240)", "(a >> 255)", "(a & b)", "(a | b)", "(a ^ b)", "(a < b)", "(b < a)", "(a == b)", "(a == a)",
            "(a - b : 255)", "(b - a : 0)", "(a - b : 15)", "(a - b : 16)", "(a - b : 200)", "bit(a, 0)", "bit(a, 15)",
            "bit(a, 16)", "bit(a, 255)", "pick((a < b), a, b)", "pick((a < b), b, 5)", "pick(bit(a, 7), 3, b)",
            "(low(a, 128) * (b >> 128))", "(low(a, 240) * low(b, 16))", "((a >> 1) + (b >> 1))", "(low(a, 3) << 253)",
            "(low(a, 240) << 16)", "(low(a, 1) << 255)", "addmod(low(a, 255), low(b, 255), " + str(MOST) + ")",
            "submod(low(a, 255), low(b, 255), " + str(MOST - 1) + ")",
            "mulmod(low(a, 255), low(b, 255), " + str(MOST) + ")", str(MOST), "0", "65536")),
    (2 ** 255 - 20, ("addmod(a, b, " + str(2 ** 255 - 19) + ")", "submod(a, b, " + str(2 ** 255 - 19) + ")",
                     "mulmod(a, b, " + str(2 ** 255 - 19) + ")", "(a + b)", "((a ^ b) | 1)")),
    (65535, ("(a + b)", "(a * b)", "(a < b)", "(a == b)", "(a << 3)", "(a >> 3)", "((a * b) * (a * b))", "bit(a, 3)",
             "addmod(a, b, 65536)", "submod(a, b, 65536)", "mulmod(a, b, 65537)", "(a - b : 0)", "(a - b : 31)",
             "((a * 65535) + (b * 65535))", "pick((a == b), 0, 1)", "((a + b) + (a + b))")),
    (65536, ("(a + b)", "(a * b)", "(a < b)", "addmod(a, b, 65537)", "mulmod(a, b, 65537)", "submod(a, b, 65538)")),
    (1, ("(a + b)", "(a * b)", "(a & b)", "pick(a, 5, 6)", "pick(a, b, 7)", "addmod(a, b, 2)", "submod(a, b, 2)",
         "mulmod(a, b, 3)", "bit(a, 200)", "(a << 255)")),
    (0, ("(a + b)", "(a - b : 40)", "(a < b)", "(a == b)", "a", "pick(a, 1, 2)", "low(a, 40)")),
)


class CompilerTest(CompiledCase):
    def setUp(self):
        self.numbers = random.Random(21)

    def values(self, most):
        return sorted({0, most, most // 2, min(most, 1), min(most, 65535), max(0, most - 1), self.numbers.randint(0, most)})

    def text_agrees(self, text, *rows, **more):
        return self.agrees(parse_program(text), *rows, **more)

    def test_expressions(self):
        for most, texts in EXPRESSIONS:
            for flow in ("public", "secret"):
                for text in texts:
                    program = read(f"y = {text};", params=f"{flow} a {most}, {flow} b {most}",
                                   results=f"{flow} y {MOST}")
                    values = self.values(most)
                    rows = [(a, b) for a in values for b in values]
                    self.agrees(program, *(rows if len(rows) < 10 else self.numbers.sample(rows, 10)))

    def test_expressions_into_items(self):
        for most, texts in EXPRESSIONS:
            for text in texts[::3]:
                program = read(f"y[k] = {text}; y[0] = y[k];", params=f"secret a {most}, secret b {most}, public k 2",
                               results=f"secret y {MOST} [3]")
                for k in (0, 1, 2):
                    self.agrees(program, *[(a, b, k) for a, b in zip(self.values(most), reversed(self.values(most)))])

    def test_bits_with_public_numbers(self):
        program = read("loop k 0 to 255 { y = low((y + bit(x, k)), 9); } z = bit(x, n);",
                       params=f"secret x {MOST}, public n 255", results="secret y 511, secret z 1")
        for n in (0, 1, 15, 16, 100, 255):
            self.agrees(program, (MOST, n), (0, n), (1 << n, n), (MOST - (1 << n), n), (12345678901234567890, n))

    def test_public_and_secret_together(self):
        program = read("p = (k * 3); s = (x * p); q[low(p, 2)] = low(s, 8); s = (q[low(k, 2)] + r[low((p + k), 1)]);",
                       params="secret x 255, public k 255, public r 9 [2]",
                       results="public p 999, secret s 999999, secret q 255 [4]")
        for k in (0, 1, 3, 255):
            self.agrees(program, *[(x, k, (4, 9)) for x in (0, 1, 200, 255)])

    def test_sets_of_a_variable_to_its_own_parts(self):
        """The words of a variable are not overwritten before they are read."""
        for text in ("y = (low(y, 240) << 16);", "y = (y >> 16);", "y = (low(y, 239) << 17);", "y = y;",
                     "y = ((y >> 16) ^ (low(y, 240) << 16));", "y = ((low(y, 128) << 128) | (y >> 128));",
                     "y = ((low(y, 16) << 240) | (y >> 16));", "y = ((low(y, 32) << 224) | low((y >> 16), 224));"):
            program = read("y = x; " + text, params=f"secret x {MOST}", results=f"secret y {MOST}")
            self.agrees(program, (0,), (MOST,), (int("0123456789abcdef" * 4, 16),))
            array = read(f"z[1] = x; {text} z[k] = y;".replace("y", "z[1]"),
                         params=f"secret x {MOST}, public k 2", results=f"secret z {MOST} [3]")
            for k in (0, 1, 2):
                self.agrees(array, (0, k), (MOST, k), (int("0123456789abcdef" * 4, 16), k))
            moved = read("z[1] = x; " + text.replace("y =", "z[k] =").replace("y", "z[1]"),
                         params=f"secret x {MOST}, public k 2", results=f"secret z {MOST} [3]")
            for k in (0, 1, 2):
                self.agrees(moved, (0, k), (MOST, k), (int("fedcba9876543210" * 4, 16), k))

    def test_loops(self):
        for statements in (
                "loop k 5 to 5 { y = k; }", "loop k 0 to 0 { y = (k + 1); }", "loop k 1023 to 1023 { y = k; }",
                "loop k 0 to 1023 { y = low((y + k), 31); }", "loop k 1000 to 1023 { y = low((y + k), 30); }",
                "loop k 0 to 1 { y = low((y + 1), 9); }", "loop k 0 to 9 { }", "loop k 0 to 9 { loop l 0 to 9 { } }",
                "loop k 1 to 3 { loop l 4 to 6 { y = low((y + (k * l)), 20); } loop l 2 to 2 { y = low((y * l), 20); } }",
                "loop k 0 to 2 { loop l 0 to 2 { loop m 0 to 2 { y = low(((y * 3) + (m + (k ^ l))), 30); } } }",
                "loop k 1 to 4 { y = low(((y * 10) + k), 16); } loop k 1 to 4 { y = low(((y * 7) + k), 16); }",
                "loop k 0 to 3 { if bit(k, 0) { y = low((y + k), 9); } else { y = low((y + 7), 9); } }"):
            for flow in ("public", "secret"):
                self.agrees(read(statements, results=f"{flow} y {2 ** 31 - 1}"), ())

    def test_deep_loops(self):
        names = [letters(at) for at in range(1, 15)]
        text = "".join(f"loop {name} 0 to 1 {{ " for name in names[:12]) + f"y = low((y + {names[0]}), 13); " + "} " * 12
        self.agrees(read(text, results="secret y 8191"), ())

    def test_many_empty_turns(self):
        self.agrees(read("loop k 0 to 1023 { " + "loop l 0 to 1023 { } " * 18 + "} y = 3;"), ())
        self.agrees(read("loop k 0 to 1023 { if k { loop l 0 to 1023 { } } else { } } y = 3;"), ())

    def test_loop_variables_as_indices(self):
        program = read("loop k 0 to 4 { y[(4 - k : 2)] = x[k]; z[(k >> 1)] = k; }",
                       params="secret x 99999 [5]", results="secret y 99999 [8], public z 9 [3]")
        self.agrees(program, ((1, 2, 3, 4, 5),), ((99999, 0, 65536, 65535, 7),))

    def test_choices(self):
        for condition, rows in (("x", (0, 1, 2, 65535, 65536, MOST)), ("(x == 5)", (5, 6)), ("(x >> 200)", (0, MOST, 1 << 200)),
                                ("0", (1,)), ("1", (1,)), ("low(x, 0)", (0, 1)), ("(x < 65536)", (65535, 65536))):
            for body, other in (("y = 1;", "y = 2;"), ("", "y = 2;"), ("y = 1;", ""), ("", ""),
                                ("y = 1; if x { z = 5; } else { z = 6; }", "loop k 0 to 3 { z = k; }")):
                program = read(f"y = 7; if {condition} {{ {body} }} else {{ {other} }} z = low((z + y), 4);",
                               params=f"public x {MOST}", results="public y 9, public z 15")
                self.agrees(program, *[(x,) for x in rows])

    def test_choices_show_only_public_things(self):
        program = read("if x { y = (s * s); } else { y = s; }", params="public x 9, secret s 9999",
                       results="secret y 99980001")
        self.agrees(program, *[(x, s) for x in (0, 1, 9) for s in (0, 1, 9999)])

    def test_calls(self):
        text = (
            "fun g(secret a 9, public b 9) to (secret s 18, public t 9) { s = (a + b); t = b; a = 0; } "
            "fun f(secret x 9, public a 9) to (secret y 18, public z 9, secret o 9) "
            "{ (y, z) = g(x, a); o = x; }")
        self.text_agrees(text, (3, 4), (9, 9), (0, 0), (0, 9))
        self.text_agrees(text.replace("g(x, a)", "g((x & 1), 6)"), (3, 4), (2, 4))

    def test_great_numbers_in_calls(self):
        """Params, results and targets of several words, also with more words on the other side."""
        for inner, outer in ((70000, 70000), (MOST, MOST), (9, MOST), (2 ** 40, 2 ** 100)):
            text = (
                f"fun g(secret a {outer}, public b {outer}) to (secret s {inner}, secret t {outer}, public u {outer}) "
                f"{{ s = low(a, {inner.bit_length() - 1}); t = a; u = b; }} "
                f"fun f(secret x {inner}, public k {inner}) to (secret y {outer}, secret z {outer}, public w {outer}) "
                "{ (y, z, w) = g(x, k); (z, y, w) = g(y, w); }")
            for k in (0, inner):
                self.text_agrees(text, (0, k), (inner, k), (inner // 3, k))

    def test_variables_of_calls(self):
        """Each call begins with variables of its own, which are 0 unless they are params."""
        text = (
            "fun g(secret a 9) to (secret y 9, secret w 99999 [9]) { var secret t 9; var secret u 9 [3]; var public v 70000; "
            "y = low((t + ((y + a) + (u[1] + v))), 3); t = 5; u[1] = 6; w[8] = low((w[8] + a), 9); "
            "w[low(v, 3)] = 5; v = 69999; } "
            "fun f() to (secret y 9, secret a 15, secret w 99999 [9]) { var secret t 9; t = 6; a = 7; "
            "(y, w) = g(2); (y, w) = g(3); loop k 1 to 3 { (y, w) = g(k); } a = low((a + t), 4); }")
        self.text_agrees(text, ())

    def test_arrays_in_calls(self):
        """Arrays as arguments and as targets, also both at once, with items of other numbers of words."""
        for inner, outer in ((9, 9), (9, 70000), (70000, 70000), (9, MOST), (65536, 2 ** 40), (MOST, MOST)):
            text = (
                f"fun turn(secret a {outer} [3]) to (secret b {inner} [3]) "
                f"{{ loop k 0 to 1 {{ b[low((k + 1), 1)] = low(a[k], 3); }} b[2] = low(a[1], 3); b[0] = low(a[2], 3); "
                "a[0] = 0; a[1] = 0; } "
                f"fun f(secret x {inner} [3]) to (secret y {outer} [3], secret z {inner} [3]) {{ ")
            rows = [((1, 2, 3),), ((7, 0, 5),), ((inner, inner, inner),)]
            self.text_agrees(text + "(y) = turn(x); (z) = turn(y); }", *rows)
            self.text_agrees(text + "(z) = turn(x); (x) = turn(x); (y) = turn(x); }", *rows)
            self.text_agrees(text + "(x) = turn(x); (x) = turn(x); (y) = turn(x); loop k 0 to 2 { z[k] = x[k]; } }", *rows)

    def test_public_arrays_as_secret_arguments(self):
        text = (
            "fun h(secret a 99 [4], public b 9 [1]) to (secret c 99 [4], public d 9 [1]) { c[1] = a[low(b[0], 2)]; } "
            "fun g(secret a 99 [4], public b 9 [1]) to (secret c 99 [4], public d 9 [1]) "
            "{ (c, d) = h(a, b); d[0] = b[0]; c[0] = a[3]; } "
            "fun f(public x 9 [4], public z 9 [1]) to (secret y 99 [4], public w 9 [1]) { (y, w) = g(x, z); }")
        self.text_agrees(text, ((1, 2, 3, 4), (3,)), ((9, 9, 0, 9), (9,)))

    def test_great_arrays(self):
        text = (
            f"fun g(secret a {2 ** 20} [64]) to (secret b {2 ** 20} [64]) {{ loop k 0 to 63 {{ b[(k ^ 1)] = a[k]; }} }} "
            f"fun f(secret x {2 ** 20} [64]) to (secret y {2 ** 20} [64]) {{ (y) = g(x); (y) = g(y); y[63] = x[62]; }}")
        rows = tuple(self.numbers.randrange(2 ** 20) for _ in range(64)), (0,) * 64, (2 ** 20,) * 64
        self.text_agrees(text, *[(row,) for row in rows])

    def test_arrays_of_each_size(self):
        for size in (1, 2, 3, 4, 5, 31, 32, 33, 63, 64):
            for most in (1, 65536, 2 ** 40):
                program = read(f"y[k] = x[k]; y[{size - 1}] = low(y[k], 1); z = x[{size - 1}]; w = x[low(k, 0)];",
                               params=f"secret x {most} [{size}], public k {size - 1}",
                               results=f"secret y {most} [{size}], secret z {most}, secret w {most}")
                for k in sorted({0, size // 2, size - 1}):
                    self.agrees(program, (tuple(range(size)) if most > 1 else (1,) * size, k),
                                ((most,) * size, k), ((0,) * size, k))

    def test_items_within_items(self):
        program = read("y = q[q[q[k]]]; loop j 0 to 3 { q[q[j]] = j; } z = x[q[q[0]]];",
                       params=f"public q 3 [4], public k 3, secret x {MOST} [4]",
                       results=f"secret y {MOST}, secret z {MOST}")
        for q in ((1, 3, 0, 2), (0, 0, 0, 0), (3, 3, 3, 3), (3, 2, 1, 0)):
            self.agrees(program, (q, 1, (1, 2, 3, 4)), (q, 1, (MOST, 0, MOST - 1, 2 ** 100)))

    def test_public_numbers_that_are_kept_meanwhile(self):
        """Great public numbers need more registers than there are, and still give indices and conditions."""
        m = 2 ** 256 - 189
        program = read(
            f"y = (mulmod(s, b, {m}) ^ x[low(mulmod(a, b, {m}), 2)]); x[(mulmod(a, b, {m}) >> 254)] = s; "
            f"if (mulmod(a, a, {m}) >> 255) {{ z = low(a, 8); }} else {{ z = bit(s, low(mulmod(b, b, {m}), 8)); }}",
            params=f"public a {m - 1}, public b {m - 1}, secret s {m - 1}, secret x {m - 1} [4]",
            results=f"secret y {MOST}, secret z 255")
        for a, b in ((0, 0), (m - 1, m - 1), (m - 1, m // 3), (m // 5, m // 7)):
            self.agrees(program, (a, b, 0, (1, 2, 3, 4)), (a, b, m - 1, (m - 1, 0, 2 ** 100, 7)))

    def test_public_and_secret_carries(self):
        """A carry that depends on a secret gets into no public number."""
        program = read("y = ((s + s) + x[low(((a + a) >> 33), 1)]); p = (a + a); z = x[((a < b) ^ (b < a))];",
                       params=f"public a {2 ** 33}, public b {2 ** 33}, secret s {2 ** 33}, secret x 9 [2]",
                       results=f"secret y {2 ** 36}, public p {2 ** 34}, secret z 9")
        for a, b in ((0, 0), (2 ** 33, 5), (2 ** 32, 2 ** 33), (65535, 65536)):
            self.agrees(program, (a, b, 0, (8, 9)), (a, b, 2 ** 33, (9, 8)), (a, b, 2 ** 32 - 1, (0, 1)))

    def test_calls_in_calls(self):
        functions = ["fun fa(secret x 9) to (secret y 9) { y = low((x + 1), 3); }"]
        for before, name in zip("abcdefg", "bcdefgh"):
            functions.append(f"fun f{name}(secret x 9) to (secret y 9) {{ (y) = f{before}(x); (y) = f{before}(y); "
                             "loop k 0 to 1 { y = low((y + k), 3); } }")
        self.text_agrees(" ".join(functions), (0,), (5,), (9,))

    def test_loops_that_call(self):
        text = (
            "fun g(secret x 65535) to (secret y 65535) { loop k 1 to 3 { y = low((y + (x * k)), 16); } } "
            "fun h(secret x 65535) to (secret y 65535) { y = x; loop k 0 to 2 { (y) = g(y); } } "
            "fun f(secret x 65535) to (secret y 65535) { y = x; loop j 1 to 3 { (y) = h(y); loop i 5 to 6 { (y) = g(y); } } }")
        self.text_agrees(text, (1,), (65535,), (777,))

    def test_functions_that_nothing_calls(self):
        text = ("fun h(secret x 9 [64]) to (secret y 9 [64]) { y[3] = x[4]; } "
                "fun g(secret x 9 [64]) to (secret y 9 [64]) { (y) = h(x); } "
                "fun f(secret x 9) to (secret y 9) { y = x; }")
        self.text_agrees(text, (7,), (9,))

    def test_variables_that_nothing_names(self):
        program = read("y = 3;", params=f"secret x {MOST}, public n 9 [3], secret m 0, secret w 65536 [2]",
                       results="secret y 9, secret z 70000 [4], public o 1", others="var secret t 9; var public u 9 [7];")
        binary = self.agrees(program, (5, (1, 2, 3), 0, (65536, 1)), (MOST, (1, 2, 3), 0, (0, 65536)))
        self.assertEqual(len(binary[2]), 4)
        self.assertEqual(len(binary[3]), 3)
        self.agrees(read(""), ())

    def test_no_params(self):
        binary = self.agrees(read("y = 9;"), ())
        self.assertEqual((binary[2], len(binary[3])), ((), 1))

    def test_params_that_get_values(self):
        program = read("x = low((x + 1), 3); y = x; r[1] = y; z = r[1];", params="secret x 9, secret r 9 [2]",
                       results="secret y 9, secret z 9")
        self.agrees(program, (3, (1, 2)), (9, (9, 9)))

    def test_square_and_multiply(self):
        for m, count in ((1009, 16), (2 ** 61 - 1, 61), (2 ** 127 - 1, 9)):
            program = parse_program(
                f"fun f(secret x {m - 1}, secret e {2 ** count - 1}) to (secret y {m - 1}) {{ y = 1; "
                f"loop k 1 to {count} {{ y = mulmod(y, y, {m}); "
                f"y = pick(bit(e, ({count} - k : 6)), mulmod(y, x, {m}), y); }} }}")
            rows = [(self.numbers.randrange(m), self.numbers.randrange(2 ** count)) for _ in range(2)]
            self.agrees(program, (0, 0), (m - 1, 2 ** count - 1), *rows)

    def test_random_programs(self):
        for seed in range(60):
            maker = Programs(seed)
            program = maker.program()
            rows = []
            for _ in range(2):
                rows.append(maker.inputs(program))
                rows.append(maker.twin(program, rows[-1]))
            self.agrees(program, *rows)

    def test_random_programs_with_great_numbers(self):
        for seed in range(12):
            maker = Programs(seed, bits=(1, 16, 64, 128, 200, 255, 256), functions=2)
            program = maker.program()
            inputs = maker.inputs(program)
            self.agrees(program, inputs, maker.twin(program, inputs))

    def test_secret_variables_and_shown_addresses(self):
        """Secret numbers of every size change nothing of what is shown."""
        program = read("y = mulmod(a, b, 340282366920938463463374607431768211297); z = pick((a < b), (a * b), 5);",
                       params=f"secret a {2 ** 120}, secret b {2 ** 120}",
                       results=f"secret y {2 ** 128}, secret z {2 ** 240}")
        self.agrees(program, *[(a, b) for a in (0, 1, 2 ** 120, 2 ** 60 + 5) for b in (0, 1, 2 ** 120, 2 ** 119)])

    def test_arguments_are_not_modified(self):
        program = read("y = x;", params="secret x 9")
        before = repr(program)
        binary = compile_program(program)
        self.assertEqual(repr(program), before)
        for value in (binary, binary[0], binary[1], binary[2], binary[3], binary[0][0], binary[1][0]):
            self.assertIs(type(value), tuple)


class SizesTest(CompiledCase):
    def large(self, program):
        error = refusal(BadCode, compile_program, program)
        self.assertIsNotNone(error)
        self.assertEqual((error.index, error.reason), (0, "large"))

    def test_too_many_instructions(self):
        modulus = 2 ** 256 - 189
        product = "x"
        for _ in range(10):
            product = f"mulmod({product}, x, {modulus})"
        self.large(read(f"y = {product};", params=f"secret x {modulus - 1}", results=f"secret y {modulus - 1}"))
        self.large(read(f"y = mulmod(x, x, {modulus}); " * 10, params=f"secret x {modulus - 1}",
                        results=f"secret y {modulus - 1}"))

    def test_too_many_words(self):
        for flow in ("public", "secret"):
            arrays = ", ".join(f"{flow} {letters(at)} {MOST} [64]" for at in range(4))
            self.large(read("", results=f"{flow} y 9", params=arrays))
        arrays = ", ".join(f"secret {letters(at)} {MOST} [64]" for at in range(3))
        self.agrees(read("y = vb[5];", results=f"secret y {MOST}", params=arrays),
                    ((0,) * 64, (7,) * 64, (MOST,) * 64), ((1,) * 64, (MOST,) * 64, (MOST,) * 64))

    def test_just_enough_words(self):
        arrays = ", ".join(f"secret {letters(at)} {MOST} [{size}]" for at, size in enumerate((64, 64, 64, 63)))
        program = read("y = vb[5];", results=f"secret y {MOST}", params=arrays)
        binary = self.agrees(program, tuple((at,) * size for at, size in enumerate((64, 64, 64, 63))))
        self.assertEqual(layout_end(binary[0]), 4096)
        self.large(read("y = vb[5];", results=f"secret y {MOST}, public z 0", params=arrays))
        self.large(read("y = mulmod(low(vb[5], 250), low(vb[5], 250), " + str(MOST) + ");", results=f"secret y {MOST}",
                        params=arrays))

    def test_too_many_regions(self):
        """Loops with different ends need regions of their own."""
        def nests(count):
            return " ".join(self.nest(start, min(13, count - start)) for start in range(0, count, 13))
        for count in (13, 254, 255):
            binary = self.agrees(read(nests(count), results="secret y 1023"), ())
            self.assertEqual(len(binary[0]), count + 1)
        self.large(read(nests(256), results="secret y 1023"))
        self.large(read(nests(255), results="secret y 1023, public z 5"))

    def nest(self, start, count):
        """So many loops within one another, of one turn each."""
        heads = "".join(f"loop {letters(at)} {start + at} to {start + at} {{ " for at in range(count))
        return heads + f"y = (y ^ {letters(count - 1)}); " + "} " * count

    def test_just_enough_instructions(self):
        """A program grows by the code of its statements: somewhere on this way it becomes too large."""
        m = 2 ** 200 - 75
        sizes = []
        for count in range(1, 16):
            body = " ".join(["z = mulmod(z, x, %d);" % m] * count)
            program = read(body, params=f"secret x {m - 1}", results=f"secret z {m - 1}")
            try:
                sizes.append(len(compile_program(program)[1]))
            except BadCode as error:
                self.assertEqual((error.index, error.reason), (0, "large"))
                sizes.append(None)
        fitting = [size for size in sizes if size is not None]
        self.assertEqual(sizes, fitting + [None] * (len(sizes) - len(fitting)))
        self.assertGreater(20000, fitting[-1])
        self.assertGreater(2 * fitting[-1] - fitting[-2], 20000)

    def test_many_small_variables(self):
        """Many variables need no more regions than few."""
        functions = []
        for at in range(7):
            variables = ", ".join(f"{'public' if v % 2 else 'secret'} {letters(v)} {v}" for v in range(8))
            locals_ = " ".join(f"var {'public' if v % 3 else 'secret'} {letters(v)} 9 [2];" for v in range(20, 32))
            call = "" if at == 0 else f"(y) = {letters(100 + at - 1)}(" + ", ".join(letters(v) for v in range(8)) + ");"
            functions.append(f"fun {letters(100 + at)}({variables}) to (secret y 9) {{ {locals_} {call} }}")
        binary = self.agrees(parse_program(" ".join(functions)), tuple(range(8)), tuple(v if v % 2 else 0 for v in range(8)))
        self.assertLessEqual(len(binary[0]), 2)

    def test_many_loops(self):
        loops = " ".join(f"loop k {at} to {at + 2} {{ y = k; }}" for at in range(24))
        self.agrees(read(loops, results="public y 99"), ())

    def never_large(self, text, *rows):
        program = parse_program(text)
        self.agrees(program, *rows)
        return program

    def test_small_programs_are_never_too_large(self):
        """At most 40 nodes, with variables and numbers less than 2 ** 32."""
        top = 2 ** 32 - 1

        def products(count):
            if count == 0:
                return "(x << 96)"
            half = (count - 1) // 2
            return f"(({products(half)} * {products(count - 1 - half)}) >> 128)"

        def modular(count):
            if count == 0:
                return "x"
            half = (count - 1) // 2
            return f"mulmod({modular(half)}, {modular(count - 1 - half)}, {top})"

        def bits(count):
            return "x" if count == 0 else f"((x << 224) ^ bit({bits(count - 1)}, k))"
        self.never_large(f"fun f(secret x {top}) to (secret y {top}) {{ y = low({products(6)}, 32); }}", (0,), (top,), (77,))
        self.never_large(f"fun f(secret x {top - 1}) to (secret y {top - 1}) {{ y = {modular(18)}; }}", (0,), (top - 1,))
        self.never_large(f"fun f(secret x {top}, public k 255) to (secret y {top}) {{ y = low({bits(6)}, 32); }}",
                         (0, 255), (top, 255))
        arrays = ", ".join(f"secret {letters(at)} {top} [8]" for at in range(8))
        names = ", ".join(letters(at) for at in range(8))
        self.never_large(
            f"fun g({arrays}) to (secret y {top} [8]) {{ y[7] = va[7]; }} "
            f"fun f({arrays}) to (secret y {top} [8]) {{ (y) = g({names}); (va) = g({names}); }}",
            tuple((at,) * 8 for at in range(8)), ((top,) * 8,) * 8)
        # Calls of calls: each function is compiled once.
        chain = ["fun va() to (secret y 9) { y = 1; }"]
        for at in range(1, 7):
            call = f"(y) = {letters(at - 1)}(); "
            chain.append(f"fun {letters(at)}() to (secret y 9) {{ {call * 3} }}")
        self.never_large(" ".join(chain), ())

    def test_programs_of_points_700_to_702(self):
        """With a modulus less than 2 ** 32, as they could be written."""
        m, count = 2 ** 32 - 5, 255
        power = (f"fun power(secret base {m - 1}, secret scalar {2 ** count - 1}) to (secret y {m - 1}) {{ y = 1; "
                 f"loop k 1 to {count} {{ y = mulmod(y, y, {m}); "
                 f"y = pick(bit(scalar, ({count} - k : 7)), mulmod(y, base, {m}), y); }} }}")
        self.never_large(power, (3, 2 ** count - 1), (m - 1, 0))
        self.never_large(ladder(m, 12345, 8), (9, 255), (m - 1, 0), (0, 77))
        self.compiled(parse_program(ladder(m, 12345, 255)))

    def test_programs_of_three_sets(self):
        """One function without arrays, three sets with one operation each, numbers less than 2 ** 231."""
        top = 2 ** 231 - 1
        m = 2 ** 131 - 1

        def less(count):
            return "x" if count == 0 else f"({less(count - 1)} < (x == {top}))"
        for first in (f"mulmod(low(x, 130), low(z, 130), {m})", f"mulmod(low(x, 130), {m - 1}, {m})"):
            for second in ("((low(x, 128) * low(z, 128)) < x)", f"low((low(x, 128) * {2 ** 128 - 1}), 231)",
                           f"(x - {top} : 229)", "pick((x < z), x, z)", "bit(x, k)", f"addmod(low(x, 230), low(z, 230), {top})"):
                self.never_large(
                    f"fun f(secret x {top}, public k 255) to (secret w {m}, secret z {top}, secret y {top}) "
                    f"{{ w = {first}; z = {second}; y = {less(8)}; }}", (0, 9), (top, 9), (2 ** 230, 9))


def ladder(m, a, count):
    h = (a - 2) * pow(4, -1, m) % m
    return (
        f"fun ladder(secret x {m - 1}, secret scalar {2 ** count - 1}) to (secret p {m - 1}, secret q {m - 1}) {{ "
        + "".join(f"var secret {name} {m - 1}; " for name in ("u", "v", "s", "d", "e", "f", "g"))
        + f"var secret b 1; p = 1; u = x; v = 1; loop k 1 to {count} {{ b = bit(scalar, ({count} - k : 7)); SWAP "
        + f"s = mulmod(addmod(p, q, {m}), addmod(p, q, {m}), {m}); d = mulmod(submod(p, q, {m}), submod(p, q, {m}), {m}); "
        + f"f = mulmod(submod(u, v, {m}), addmod(p, q, {m}), {m}); g = mulmod(addmod(u, v, {m}), submod(p, q, {m}), {m}); "
        + f"e = submod(s, d, {m}); p = mulmod(s, d, {m}); q = mulmod(e, addmod(s, mulmod({h}, e, {m}), {m}), {m}); "
        + f"u = mulmod(addmod(f, g, {m}), addmod(f, g, {m}), {m}); "
        + f"v = mulmod(x, mulmod(submod(f, g, {m}), submod(f, g, {m}), {m}), {m}); SWAP }} }}"
    ).replace("SWAP", "s = pick(b, u, p); u = pick(b, p, u); p = s; s = pick(b, v, q); v = pick(b, q, v); q = s;")


class LayoutsOfProgramsTest(CompiledCase):
    def test_flows_of_all_variables(self):
        program = read("y = (x + k);", params="secret x 9, public k 9, secret r 70000 [3], public q 9 [2]",
                       results="secret y 18, public z 5, secret w 70000 [2]")
        layout, _, inputs, outputs = self.compiled(program)
        flows = [layout[region_at(layout, address)][2] for address in inputs + outputs]
        self.assertEqual(flows, ["secret", "public", "secret", "public", "secret", "public", "secret"])
        self.assertLessEqual(layout_end(layout), 4096)

    def test_variables_of_all_functions(self):
        """No other function changes a variable of the main function, wherever its own ones lie."""
        text = (
            "fun g(secret a 9 [9], public b 9 [9]) to (secret c 9 [9], public d 9 [9]) "
            "{ loop k 0 to 8 { a[k] = 9; b[k] = 9; c[k] = 9; d[k] = 9; } } "
            "fun f(secret x 9 [9], public y 9 [9]) to (secret s 9 [9], public t 9 [9], secret o 9 [9], public p 9 [9]) "
            "{ var secret u 9 [9]; var public v 9 [9]; loop k 0 to 8 { s[k] = x[k]; t[k] = y[k]; } (u, v) = g(x, y); "
            "loop k 0 to 8 { o[k] = x[k]; p[k] = y[k]; } }")
        rows = tuple(range(9)), tuple(range(9, 0, -1))
        self.agrees(parse_program(text), rows, ((0,) * 9, rows[1]))

    def test_numbers_of_words(self):
        for most in (0, 1, 65535, 65536, 2 ** 32 - 1, 2 ** 32, MOST):
            for size in (0, 1, 3):
                brackets = f" [{size}]" if size else ""
                program = read("", params=f"secret a {most}{brackets}, secret b 5", results="secret y 9")
                _, _, inputs, outputs = self.compiled(program)
                count = words_of(most) * max(1, size)
                taken = set(range(inputs[0], inputs[0] + count))
                self.assertNotIn(inputs[1], taken)
                self.assertNotIn(outputs[0], taken)


if __name__ == "__main__":
    unittest.main()
