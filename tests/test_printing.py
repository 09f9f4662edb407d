import unittest

from quietsmith.printing import program_text
from quietsmith.values import MOST
from tests.helpers import ONE, SET, X, Y, program_of

A = ("name", "a")
B = ("name", "b")
C = ("name", "c")

EXPRESSIONS = (
    (("int", 0), "0"),
    (("int", 70), "70"),
    (("int", MOST), str(MOST)),
    (A, "a"),
    (("item", "row", A), "row[a]"),
    (("item", "row", ("item", "row", ("int", 2))), "row[row[2]]"),
    (("add", A, B), "(a + b)"),
    (("mul", A, B), "(a * b)"),
    (("sub", A, B, 0), "(a - b : 0)"),
    (("sub", A, B, 255), "(a - b : 255)"),
    (("less", A, B), "(a < b)"),
    (("same", A, B), "(a == b)"),
    (("and", A, B), "(a & b)"),
    (("or", A, B), "(a | b)"),
    (("xor", A, B), "(a ^ b)"),
    (("down", A, 3), "(a >> 3)"),
    (("up", A, 14), "(a << 14)"),
    (("low", A, 16), "low(a, 16)"),
    (("bit", A, B), "bit(a, b)"),
    (("pick", C, A, B), "pick(c, a, b)"),
    (("addmod", A, B, 7), "addmod(a, b, 7)"),
    (("submod", A, B, 8), "submod(a, b, 8)"),
    (("mulmod", A, B, 9), "mulmod(a, b, 9)"),
    (("add", ("mul", A, B), ("low", ("sub", A, B, 4), 2)), "((a * b) + low((a - b : 4), 2))"),
)

STATEMENTS = (
    (("set", "x", A), "x = a;"),
    (("put", "x", A, B), "x[a] = b;"),
    (("loop", "k", 0, 1023, ()), "loop k 0 to 1023 { }"),
    (("loop", "k", 3, 4, (SET,)), "loop k 3 to 4 { y = 1; }"),
    (("loop", "k", 3, 4, (SET, SET)), "loop k 3 to 4 { y = 1; y = 1; }"),
    (("if", A, (), ()), "if a { } else { }"),
    (("if", A, (SET,), ()), "if a { y = 1; } else { }"),
    (("if", A, (), (SET, SET)), "if a { } else { y = 1; y = 1; }"),
    (("call", ("x",), "g", ()), "(x) = g();"),
    (("call", ("x", "y"), "g", (A,)), "(x, y) = g(a);"),
    (("call", ("x", "y", "z"), "g", (A, ONE, B)), "(x, y, z) = g(a, 1, b);"),
    (("loop", "k", 1, 2, (("if", A, (SET,), (("loop", "l", 0, 0, ()),)),)),
     "loop k 1 to 2 { if a { y = 1; } else { loop l 0 to 0 { } } }"),
)


class PrintingTest(unittest.TestCase):
    def test_expressions(self):
        for expression, text in EXPRESSIONS:
            self.assertEqual(
                program_text(program_of(("set", "y", expression))),
                "fun f() to (secret y 9) { y = " + text + "; }")

    def test_statements(self):
        for statement, text in STATEMENTS:
            self.assertEqual(
                program_text(program_of(statement)), "fun f() to (secret y 9) { " + text + " }")
            self.assertEqual(
                program_text(program_of(SET, statement)),
                "fun f() to (secret y 9) { y = 1; " + text + " }")

    def test_empty_body(self):
        self.assertEqual(program_text(program_of()), "fun f() to (secret y 9) { }")

    def test_locals(self):
        one = ("t", "public", 0, 0)
        two = ("u", "secret", MOST, 64)
        self.assertEqual(
            program_text(program_of(others=(one,))),
            "fun f() to (secret y 9) { var public t 0; }")
        self.assertEqual(
            program_text(program_of(SET, others=(one, two))),
            "fun f() to (secret y 9) { var public t 0; var secret u " + str(MOST)
            + " [64]; y = 1; }")

    def test_variables(self):
        row = ("r", "public", 65535, 1)
        self.assertEqual(
            program_text(program_of(params=(X,), results=(Y, row))),
            "fun f(secret x 9) to (secret y 9, public r 65535 [1]) { }")
        self.assertEqual(
            program_text(program_of(params=(X, row, ("z", "public", 1, 0)))),
            "fun f(secret x 9, public r 65535 [1], public z 1) to (secret y 9) { }")

    def test_functions(self):
        first = ("g", (), (Y,), (), ())
        second = ("h", (X,), (Y,), (), (SET,))
        self.assertEqual(
            program_text((first, second) + program_of(("call", ("y",), "h", (ONE,)))),
            "fun g() to (secret y 9) { } fun h(secret x 9) to (secret y 9) { y = 1; } "
            "fun f() to (secret y 9) { (y) = h(1); }")


if __name__ == "__main__":
    unittest.main()
