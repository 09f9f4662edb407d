import unittest

from quietsmith.checker import check_program
from quietsmith.errors import BadProgram
from quietsmith.syntax import parse_program
from quietsmith.values import MOST
from tests.helpers import ONE, Y, program_of, read, refusal

PARAMS = ("secret s 9, public p 5, secret c 1, public d 1, secret r 7 [4], public q 6 [4], "
          "secret big " + str(MOST) + ", public half " + str(MOST // 2))
OTHERS = "var public w 63; var secret z 0; var public wide 1000;"

# Each expression with its flow and its greatest value, over these variables.
ROWS = (
    ("0", "public", 0), ("9", "public", 9), (str(MOST), "public", MOST),
    ("s", "secret", 9), ("p", "public", 5), ("r[3]", "secret", 7), ("q[0]", "public", 6),
    ("q[d]", "public", 6), ("r[d]", "secret", 7), ("big", "secret", MOST),
    ("(p + p)", "public", 10), ("(s + p)", "secret", 14), ("(p + s)", "secret", 14),
    ("(half + half)", "public", MOST - 1), ("(half + (half + 1))", "public", MOST),
    ("(p * 7)", "public", 35), ("(s * p)", "secret", 45), ("(z * big)", "secret", 0),
    ("(p - 9 : 0)", "public", 1), ("(s - p : 3)", "secret", 15), ("(p - s : 7)", "secret", 255),
    ("(p - p : 255)", "public", MOST), ("(big - 1 : 255)", "secret", MOST),
    ("(p < 9)", "public", 1), ("(p < s)", "secret", 1), ("(big < big)", "secret", 1),
    ("(p == 9)", "public", 1), ("(s == p)", "secret", 1),
    ("(p & 3)", "public", 3), ("(3 & s)", "secret", 3), ("(p & big)", "secret", 5),
    ("(p | 1)", "public", 7), ("(p | s)", "secret", 15), ("(p | 7)", "public", 7),
    ("(p | 8)", "public", 15), ("(0 | 0)", "public", 0), ("(big | 1)", "secret", MOST),
    ("(0 | 1)", "public", 1), ("(1 | 2)", "public", 3), ("(half | 0)", "public", MOST // 2),
    ("(p ^ p)", "public", 7), ("(s ^ 16)", "secret", 31), ("(0 ^ 0)", "public", 0),
    ("(p >> 0)", "public", 5), ("(p >> 1)", "public", 2), ("(s >> 3)", "secret", 1),
    ("(s >> 4)", "secret", 0), ("(big >> 255)", "secret", 1),
    ("(p << 0)", "public", 5), ("(s << 3)", "secret", 72), ("(1 << 255)", "public", 2 ** 255),
    ("(0 << 255)", "public", 0), ("(half << 1)", "public", MOST - 1),
    ("low(p, 0)", "public", 0), ("low(s, 3)", "secret", 7), ("low(s, 4)", "secret", 9),
    ("low(big, 255)", "secret", 2 ** 255 - 1), ("low(p, 255)", "public", 5),
    ("bit(p, 255)", "public", 1), ("bit(s, p)", "secret", 1), ("bit(big, low(wide, 8))", "secret", 1),
    ("bit(0, 0)", "public", 1),
    ("pick(d, p, 3)", "public", 5), ("pick(d, 3, p)", "public", 5), ("pick(c, 3, p)", "secret", 5),
    ("pick(d, s, p)", "secret", 9), ("pick(d, p, s)", "secret", 9), ("pick(0, 0, 0)", "public", 0),
    ("pick((p < s), 1, 2)", "secret", 2), ("pick(c, big, 2)", "secret", MOST),
    ("addmod(p, 5, 6)", "public", 5), ("addmod(s, p, 100)", "secret", 99), ("addmod(z, c, 2)", "secret", 1),
    ("addmod(0, 0, " + str(MOST) + ")", "public", MOST - 1),
    ("submod(p, 5, 6)", "public", 5), ("submod(p, s, 10)", "secret", 9),
    ("mulmod(p, 5, 7)", "public", 6), ("mulmod(s, p, 11)", "secret", 10), ("mulmod(c, d, 3)", "secret", 2),
    ("mulmod(half, 1, " + str(MOST) + ")", "public", MOST - 1),
    ("low((s + (p * 3)), 5)", "secret", 24), ("((p < 3) + bit(p, 0))", "public", 2),
)


class CheckerCase(unittest.TestCase):
    def taken(self, program):
        self.assertIs(check_program(program), program)

    def refused(self, program, reason):
        error = refusal(BadProgram, check_program, program)
        self.assertIsNotNone(error, program)
        self.assertEqual(error.reason, reason, program)

    def body_taken(self, statements, results="secret y 9"):
        self.taken(read(statements, PARAMS, results, OTHERS))

    def body_refused(self, statements, reason, results="secret y 9"):
        self.refused(read(statements, PARAMS, results, OTHERS), reason)

    def values_refused(self, reason, *texts):
        """Expressions that are refused wherever they stand."""
        for text in texts:
            self.body_refused(f"y = {text};", reason)
            self.body_refused(f"y = low({text}, 3);", reason)
            self.body_refused(f"y = low((s + {text}), 3);", reason)
            self.body_refused(f"r[0] = {text};", reason)
            self.body_refused(f"if {text} {{ }} else {{ }}", reason)
            self.body_refused(f"loop k 0 to 1 {{ y = {text}; }}", reason)
            self.body_refused(f"if d {{ }} else {{ y = {text}; }}", reason)

    def calls(self, statement):
        """A program in which two functions stand before the statement, and one behind it."""
        return parse_program(
            "fun e() to (secret y 9) { } "
            "fun g(secret a 9, public b 9) to (secret x 9, secret z 9 [4]) { } "
            "fun h(secret a 9 [4], public b 9) to (public x 9, secret z 9) { } "
            "fun f(" + PARAMS + ") to (secret y 9, secret row 9 [4], public o 9) { " + OTHERS + statement
            + " } fun last() to (secret y 9) { }")

    def calls_refused(self, statement, reason):
        self.refused(self.calls(statement), reason)

    def calls_taken(self, *statements):
        for statement in statements:
            self.taken(self.calls(statement))


class RulesTest(CheckerCase):
    def test_greatest_values(self):
        for text, flow, most in ROWS:
            self.body_taken(f"y = {text};", f"secret y {most}")
            self.body_taken(f"y[0] = {text};", f"secret y {most} [1]")
            if most > 0:
                self.body_refused(f"y = {text};", "range", f"secret y {most - 1}")
                self.body_refused(f"y[0] = {text};", "range", f"secret y {most - 1} [1]")

    def test_flows(self):
        for text, flow, most in ROWS:
            for statement, results in ((f"y = {text};", f"public y {most}"),
                                       (f"y[0] = {text};", f"public y {most} [2]")):
                if flow == "public":
                    self.body_taken(statement, results)
                else:
                    self.body_refused(statement, "flow", results)
            condition = f"if {text} {{ }} else {{ }}"
            if flow == "public":
                self.body_taken(condition)
            else:
                self.body_refused(condition, "flow")

    def test_loop_variables(self):
        self.body_taken("loop k 3 to 7 { y = k; }", "public y 7")
        self.body_refused("loop k 3 to 7 { y = k; }", "range", "public y 6")
        self.body_taken("loop k 0 to 3 { y = q[k]; }")
        self.body_refused("loop k 0 to 4 { y = q[k]; }", "range")
        self.body_taken("loop k 0 to 1 { } loop k 0 to 5 { y = k; }", "public y 5")
        self.body_taken("loop k 0 to 1 { loop l 0 to 2 { y = (k + l); } loop l 1 to 1 { } }")

    def test_unknown_variables(self):
        self.values_refused("name", "v", "v[0]", "f", "g")
        for statement in ("v = 1;", "v[0] = 1;", "(y, v) = g(1, 2);", "(v, y) = g(1, 2);",
                          "(y, r) = g(v, 2);", "(y, r) = h(v, 2);", "if v { } else { }"):
            self.calls_refused(statement, "name")

    def test_loop_variable_behind_its_loop(self):
        self.body_refused("loop k 0 to 1 { } y = k;", "name")
        self.body_refused("y = k; loop k 0 to 1 { }", "name")
        self.body_refused("loop k 0 to 1 { loop l 0 to 1 { } y = l; }", "name")

    def test_variables_of_other_functions(self):
        self.refused(parse_program(
            "fun g(secret x 9) to (secret z 9) { var secret t 9; loop k 0 to 1 { } } "
            "fun f() to (secret y 9) { y = t; }"), "name")
        for name in ("x", "z", "k"):
            self.refused(parse_program(
                "fun g(secret x 9) to (secret z 9) { loop k 0 to 1 { } } "
                "fun f() to (secret y 9) { y = " + name + "; }"), "name")

    def test_known_loop_variables(self):
        for name in ("s", "p", "r", "y", "w"):
            self.body_refused(f"loop {name} 0 to 1 {{ }}", "name")
        self.body_refused("loop k 0 to 1 { loop k 0 to 1 { } }", "name")
        self.body_refused("loop k 0 to 1 { if d { } else { loop k 0 to 1 { } } }", "name")
        self.body_taken("if d { loop k 0 to 1 { } } else { loop k 0 to 1 { } }")

    def test_functions(self):
        self.calls_taken("(y, row) = g(s, p);", "(o, y) = h(r, p);", "(y, row) = g(1, 2); (o, y) = h(q, 0);")
        for name in ("f", "last", "v", "s", "y"):
            self.calls_refused(f"(y) = {name}();", "name")
        self.refused(parse_program("fun f() to (secret y 9) { (y) = f(); }"), "name")
        self.refused(parse_program(
            "fun g() to (secret y 9) { (y) = f(); } fun f() to (secret y 9) { }"), "name")
        self.taken(parse_program(
            "fun g() to (secret y 9) { } fun f() to (secret y 9) { (y) = g(); }"))

    def test_arrays_and_singles(self):
        self.values_refused("type", "r", "q", "s[0]", "p[0]")
        self.body_refused("r = 1;", "type")
        self.body_refused("s[0] = 1;", "type")
        self.body_refused("r[q] = 1;", "type")
        self.body_refused("y = bit(s, q);", "type")
        self.body_refused("y = 1;", "type", "secret y 9 [1]")
        self.body_refused("y[0] = 1;", "type")
        self.body_refused("loop k 0 to 1 { y = k[0]; }", "type")

    def test_loop_variables_that_get_values(self):
        self.body_refused("loop k 0 to 1 { k = 1; }", "type")
        self.body_refused("loop k 0 to 1 { k[0] = 1; }", "type")
        self.body_refused("loop k 0 to 1 { loop l 0 to 1 { if d { k = 1; } else { } } }", "type")
        self.calls_refused("loop k 0 to 9 { (y, k) = g(1, 2); }", "type")
        self.calls_refused("loop k 0 to 9 { (k, row) = g(1, 2); }", "type")
        self.calls_refused("loop k 0 to 9 { (o, k) = h(r, 2); }", "type")
        self.calls_taken("loop k 0 to 9 { (o, y) = h(r, k); }")

    def test_numbers_of_arguments_and_targets(self):
        for statement in ("(y, row) = g();", "(y, row) = g(1);", "(y, row) = g(1, 2, 3);",
                          "(y) = g(1, 2);", "(y, row, o) = g(1, 2);", "(y) = e(1);", "(y, o) = e();"):
            self.calls_refused(statement, "type")

    def test_arrays_in_calls(self):
        for statement in (
            "(y, row) = g(r, 2);", "(y, row) = g(1, q);", "(o, y) = h(s, 2);", "(o, y) = h(1, 2);",
            "(o, y) = h(r[0], 2);", "(o, y) = h(pick(1, 1, 1), 2);", "(o, y) = h((s + p), 2);",
            "(o, y) = h(v[0], 2);", "(o, y) = h((v + v), 2);", "(row, y) = g(1, 2);", "(y, o) = g(1, 2);",
            "(row, y) = h(r, 2);", "(o, row) = h(r, 2);", "loop k 0 to 1 { (o, y) = h(k, 2); }",
        ):
            self.calls_refused(statement, "type")

    def test_sizes_in_calls(self):
        for size, reason in ((3, "type"), (4, ""), (5, "type"), (1, "type")):
            for text in (
                "fun g(secret a 9 [4]) to (secret z 9) { } "
                f"fun f(secret b 9 [{size}]) to (secret y 9) {{ (y) = g(b); }}",
                "fun g() to (secret z 9 [4]) { } "
                f"fun f() to (secret y 9 [{size}]) {{ (y) = g(); }}",
            ):
                if reason == "":
                    self.taken(parse_program(text))
                else:
                    self.refused(parse_program(text), reason)

    def test_secret_places(self):
        self.values_refused("flow", "q[c]", "r[c]", "r[(d + c)]", "bit(p, c)", "bit(s, s)", "q[q[r[0]]]")
        self.body_refused("r[c] = 1;", "flow")
        self.body_refused("r[pick(1, 1, c)] = 1;", "flow")
        self.body_taken("r[d] = 1; y = r[d]; y = bit(s, d);")

    def test_secret_conditions(self):
        self.body_refused("if s { } else { }", "flow")
        self.body_refused("if (p == c) { } else { }", "flow")
        self.body_taken("if wide { } else { } y = pick(c, s, p);")

    def test_secret_values(self):
        self.body_refused("p = s;", "flow")
        self.body_refused("p = (p & c);", "flow")
        self.body_refused("q[0] = c;", "flow")
        self.body_refused("loop k 0 to 1 { p = z; }", "flow")
        self.body_taken("s = p; r[0] = p; s = s; p = d;")

    def test_flows_of_calls(self):
        self.calls_refused("(y, row) = g(1, c);", "flow")
        self.calls_refused("(o, row) = g(1, 2);", "flow")
        self.calls_refused("(y, o) = h(r, 2);", "flow")
        self.calls_taken("(y, row) = g(p, 2);", "(o, y) = h(q, 2);", "(s, y) = h(r, 2);")
        self.refused(parse_program(
            "fun g(public a 9 [2]) to (secret z 9) { } "
            "fun f(secret b 9 [2]) to (secret y 9) { (y) = g(b); }"), "flow")
        self.refused(parse_program(
            "fun g() to (secret z 9 [2]) { } fun f() to (public y 9 [2]) { (y) = g(); }"), "flow")
        self.taken(parse_program(
            "fun g() to (public z 9 [2]) { } fun f() to (secret y 9 [2]) { (y) = g(); }"))

    def test_beyond_most(self):
        self.values_refused(
            "range", "(big + 1)", "(half + (half + 2))", "(big * 2)", "(half * 3)", "(big << 1)",
            "(2 << 255)", "(half << 2)", "(big * big)")
        self.body_taken("big = (big + 0); big = (big * 1); big = (big << 0); big = (big * z);")

    def test_indexes(self):
        self.values_refused("range", "r[4]", "q[p]", "q[wide]", f"q[{MOST}]")
        self.body_refused("r[4] = 1;", "range")
        self.body_refused("r[p] = 1;", "range")
        self.body_taken("r[3] = 1; y = q[low(p, 2)];")
        self.body_refused("y[1] = 0;", "range", "secret y 9 [1]")
        self.body_taken("y[63] = 0; y[w] = 0;", "secret y 9 [64]")
        self.body_refused("y[64] = 0;", "range", "secret y 9 [64]")

    def test_numbers_of_bits(self):
        self.values_refused("range", "bit(s, 256)", "bit(s, wide)", f"bit(p, {MOST})")
        self.body_taken("y = bit(s, 255); y = bit(s, 0);")

    def test_conditions_of_pick(self):
        self.values_refused("range", "pick(2, 1, 1)", "pick(p, 1, 1)", "pick(s, 1, 1)", "pick(big, 1, 1)")
        self.body_taken("y = pick(1, 1, 1); y = pick(0, 1, 1); y = pick(c, 1, 1); y = pick(z, 1, 1);")

    def test_moduli(self):
        for head in ("addmod", "submod", "mulmod"):
            for modulus in (3, 9, 11, 255):
                least = modulus - 1
                self.body_taken(f"big = {head}({least}, {least}, {modulus});")
                self.values_refused("range", f"{head}({modulus}, 0, {modulus})",
                                    f"{head}(0, {modulus}, {modulus})")
            self.body_taken(f"big = {head}(s, p, 11);")
            self.body_refused(f"big = {head}(s, p, 9);", "range")
            self.body_refused(f"big = {head}(p, s, 9);", "range")
        for modulus in (2, 4, 100, MOST - 1):
            self.body_taken(f"big = addmod(0, 1, {modulus}); big = submod(1, 0, {modulus});")
            self.values_refused("range", f"mulmod(0, 1, {modulus})")
        self.body_taken(f"big = mulmod(0, 1, {MOST});")

    def test_ranges_of_values(self):
        self.body_taken("y = 9; s = 9; r[0] = 7; q[0] = 6; w = 63; z = 0;")
        for statement in ("y = 10;", "s = 10;", "r[0] = 8;", "q[0] = 7;", "w = 64;", "z = 1;"):
            self.body_refused(statement, "range")

    def test_ranges_of_calls(self):
        self.calls_taken("(y, row) = g(9, 9);", "(o, y) = h(r, 9);")
        for statement in ("(y, row) = g(10, 9);", "(y, row) = g(9, 10);", "(o, y) = h(r, 10);",
                          "(p, y) = h(r, 9);", "(o, c) = h(r, 9);", "(y, r) = g(9, 9);"):
            self.calls_refused(statement, "range")
        for most, reason in ((8, ""), (9, ""), (10, "range")):
            text = ("fun g(secret a 9 [2]) to (secret z 9) { } "
                    f"fun f(secret b {most} [2]) to (secret y 9) {{ (y) = g(b); }}")
            other = (f"fun g() to (secret z {most} [2]) {{ }} "
                     "fun f() to (secret y 9 [2]) { (y) = g(); }")
            for program in (parse_program(text), parse_program(other)):
                if reason == "":
                    self.taken(program)
                else:
                    self.refused(program, reason)


class OrderTest(CheckerCase):
    """Programs with two faults: the reason is that of the first one."""

    def test_rules_at_a_set(self):
        self.body_refused("v = (big + 1);", "range")
        self.body_refused("v = q[c];", "flow")
        self.body_refused("v = r;", "type")
        self.body_refused("r = v;", "name")
        self.body_refused("q = s;", "type")
        self.body_refused("q = big;", "type")
        self.body_refused("loop k 0 to 1 { k = big; }", "type")
        self.body_refused("p = big;", "flow")
        self.body_refused("r = r[c];", "flow")
        self.body_refused("r = 8;", "type")

    def test_rules_at_a_put(self):
        self.body_refused("v[q] = 1;", "name")
        self.body_refused("v[c] = r;", "name")
        self.body_refused("s[v] = 1;", "type")
        self.body_refused("s[c] = v;", "type")
        self.body_refused("q[v] = r;", "name")
        self.body_refused("q[r] = v;", "type")
        self.body_refused("q[c] = v;", "flow")
        self.body_refused("q[big] = v;", "flow")
        self.body_refused("q[4] = v;", "range")
        self.body_refused("q[4] = s;", "range")
        self.body_refused("q[r[c]] = v;", "flow")
        self.body_refused("q[3] = v;", "name")
        self.body_refused("q[3] = big;", "flow")
        self.body_refused("loop k 0 to 1 { k[v] = v; }", "type")

    def test_rules_at_an_item(self):
        self.body_refused("y = v[r];", "name")
        self.body_refused("y = s[v];", "type")
        self.body_refused("y = q[v];", "name")
        self.body_refused("y = q[big];", "flow")
        self.body_refused("y = q[q[9]];", "range")
        self.body_refused("y = q[r[9]];", "range")
        self.body_refused("y = s[q[c]];", "type")

    def test_rules_at_a_bit(self):
        self.body_refused("y = bit(v, big);", "name")
        self.body_refused("y = bit(r, v);", "type")
        self.body_refused("y = bit(q[4], c);", "range")
        self.body_refused("y = bit(s, big);", "flow")
        self.body_refused("y = bit(s, q[4]);", "range")
        self.body_refused("y = bit(s, r[4]);", "range")

    def test_operands_come_first(self):
        self.body_refused("y = (r + v);", "type")
        self.body_refused("y = (v + r);", "name")
        self.body_refused("y = (q[4] + v);", "range")
        self.body_refused("y = (q[c] + v);", "flow")
        self.body_refused("y = ((big + 1) + v);", "range")
        self.body_refused("y = (big + bit(big, c));", "flow")
        self.body_refused("y = mulmod(9, v, 4);", "name")
        self.body_refused("y = addmod(9, q[c], 4);", "flow")
        self.body_refused("y = pick(2, v, 1);", "name")
        self.body_refused("y = pick(2, 1, r);", "type")
        self.body_refused("y = pick(q[c], v, r);", "flow")

    def test_rules_at_an_if(self):
        self.body_refused("if s { y = v; } else { }", "flow")
        self.body_refused("if v { y = r; } else { }", "name")
        self.body_refused("if (big + 1) { y = v; } else { }", "range")
        self.body_refused("if d { y = r; } else { y = v; }", "type")
        self.body_refused("if d { y = 10; } else { y = v; }", "range")

    def test_rules_at_a_loop(self):
        self.body_refused("loop s 0 to 1 { y = r; }", "name")
        self.body_refused("loop k 0 to 1 { y = r; loop k 0 to 1 { } }", "type")
        self.body_refused("loop k 0 to 1 { y = 10; } y = v;", "range")

    def test_rules_at_a_call(self):
        for statement, reason in (
            ("(v) = w(v);", "name"), ("(y) = g(v);", "type"), ("(v) = g(1, 2);", "type"),
            ("(v, row) = g(r, 2);", "type"), ("(v, row) = g(1, c);", "flow"), ("(v, row) = g(10, 2);", "range"),
            ("(v, row) = g(r, v);", "type"), ("(o, row) = g(v, r);", "name"), ("(y, row) = g(10, c);", "range"),
            ("(y, row) = g(10, v);", "range"), ("(y, row) = g(1, big);", "flow"), ("(row, v) = g(1, 2);", "type"),
            ("(o, v) = g(1, 2);", "flow"), ("(c, v) = g(1, 2);", "range"), ("(v, y) = h(s, 2);", "type"),
            ("(v, y) = h(v, c);", "name"), ("(v, y) = h((v + v), c);", "type"), ("(o, y) = h(big, c);", "type"),
            ("(o, y) = h(v[c], v);", "type"), ("(d, z) = h(q, big);", "flow"), ("(d, z) = h(q, 10);", "range"),
            ("(c, v) = h(r, 1);", "range"), ("(p, row) = g(1, 2);", "flow"),
            ("(row) = last(v, v);", "name"), ("(row) = e(v);", "type"), ("loop k 0 to 0 { (k, o) = g(1, 2); }", "type"),
            ("loop k 0 to 0 { (k, v) = g(1, 2); }", "type"),
        ):
            self.calls_refused(statement, reason)

    def test_array_arguments(self):
        for flow, most, size, reason in (
            ("secret", 10, 3, "type"), ("secret", 10, 2, "flow"), ("public", 10, 2, "range"),
            ("secret", 9, 3, "type"), ("public", 9, 2, ""),
        ):
            program = parse_program(
                "fun g(public a 9 [2]) to (secret z 9) { } "
                f"fun f(secret y 9, {flow} b {most} [{size}]) to (secret o 9) {{ (o) = g(b); }}")
            if reason == "":
                self.taken(program)
            else:
                self.refused(program, reason)

    def test_statements_in_order(self):
        self.body_refused("y = r; y = v;", "type")
        self.body_refused("y = v; y = r;", "name")
        self.body_refused("y = 10; p = s;", "range")
        self.body_refused("p = s; y = 10;", "flow")

    def test_functions_in_order(self):
        for first, second, reason in (("v", "10", "name"), ("10", "v", "range"), ("9", "v", "name")):
            self.refused(parse_program(
                f"fun g() to (secret y 9) {{ y = {first}; }} "
                f"fun f() to (secret y 9) {{ y = {second}; }}"), reason)


class WorkTest(CheckerCase):
    def filler(self, work):
        """Statements with this work, which is at least 18984."""
        rest = work - 18982
        return ("loop filler 0 to 998 { " + "y = 0; " * 19 + "} "
                + f"loop filler 0 to {rest - 2} {{ y = 0; }} ")

    def work_is(self, statements, work, before="", params=PARAMS):
        """The statements have this work: it is taken up to 20000, and not above."""
        for total, reason in ((19999, ""), (20000, ""), (20001, "work"), (20002, "work")):
            text = before + (f"fun f({params}) to (secret y 9) {{ "
                             + self.filler(total - work) + statements + " }")
            program = parse_program(text)
            if reason == "":
                self.taken(program)
            else:
                self.refused(program, reason)

    def test_statements(self):
        self.work_is("", 0)
        self.work_is("y = 1;", 1)
        self.work_is("r[0] = 1;", 1)
        self.work_is("y = 1; r[0] = 1; big = mulmod((s + p), r[2], 99);", 3)

    def test_loops(self):
        self.work_is("loop k 0 to 1023 { }", 1)
        self.work_is("loop k 5 to 5 { y = 1; }", 2)
        self.work_is("loop k 5 to 9 { y = 1; }", 6)
        self.work_is("loop k 0 to 9 { y = 1; r[0] = 1; y = 2; }", 31)
        self.work_is("loop k 0 to 9 { loop l 1 to 3 { y = 1; y = 1; } }", 71)
        self.work_is("loop k 0 to 9 { loop l 1 to 3 { } }", 11)

    def test_ifs(self):
        self.work_is("if d { } else { }", 1)
        self.work_is("if d { y = 1; } else { }", 2)
        self.work_is("if d { } else { y = 1; y = 2; }", 3)
        self.work_is("if d { y = 1; y = 1; y = 1; } else { y = 1; y = 2; }", 4)
        self.work_is("if d { loop k 0 to 9 { y = 1; } } else { y = 1; y = 2; }", 12)
        self.work_is("loop k 0 to 9 { if d { y = 1; } else { } }", 21)

    def test_calls(self):
        empty = "fun g() to (secret y 9) { } "
        self.work_is("(y) = g();", 1, empty)
        some = "fun g(secret x 9) to (secret y 9) { loop k 0 to 4 { y = 1; } y = x; } "
        self.work_is("(y) = g(9);", 8, some)
        self.work_is("loop k 1 to 3 { (y) = g(k); (y) = g(0); }", 49, some)
        more = some + "fun h() to (secret y 9) { (y) = g(1); (y) = g(2); } "
        self.work_is("(y) = h();", 17, more)
        self.work_is("(y) = h(); (y) = g(1);", 25, more)

    def test_each_function(self):
        full = "fun g() to (secret y 9) { " + self.filler(20000) + "} "
        over = "fun g() to (secret y 9) { " + self.filler(20001) + "} "
        self.taken(parse_program(full + "fun f() to (secret y 9) { " + self.filler(20000) + "}"))
        self.refused(parse_program(full + "fun f() to (secret y 9) { (y) = g(); }"), "work")
        self.refused(parse_program(over + "fun f() to (secret y 9) { }"), "work")

    def test_at_the_end_of_a_function(self):
        over = "fun g() to (secret y 9) { " + self.filler(20001)
        self.refused(parse_program(over + "y = 10; } fun f() to (secret y 9) { }"), "range")
        self.refused(parse_program(over + "y = v; } fun f() to (secret y 9) { }"), "name")
        self.refused(parse_program(over + "} fun f() to (secret y 9) { y = v; }"), "work")
        self.refused(parse_program(
            "fun g() to (secret y 9) { y = v; } fun f() to (secret y 9) { " + self.filler(20001) + "}"), "name")

    def test_very_much_work(self):
        inner = "y = 1;"
        for name in "abcdefghijkl":
            inner = f"loop {name} 0 to 1023 {{ {inner} }}"
        self.refused(parse_program("fun g() to (secret y 9) { " + inner + " }"), "work")

    def test_no_errors_for_long_programs(self):
        """The bounds of the form are not looked at again."""
        self.taken(program_of(*[("set", "y", ONE)] * 30))
        self.taken(program_of(*[("set", "y", ONE)] * 600, results=(Y,)))


if __name__ == "__main__":
    unittest.main()
