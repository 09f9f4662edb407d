import unittest

from quietsmith.values import (
    MOST, RESERVED, is_integer, is_name, is_value, is_variable, zero_value,
)


class NamesTest(unittest.TestCase):
    def test_most(self):
        self.assertEqual(MOST, 2 ** 256 - 1)

    def test_reserved(self):
        self.assertEqual(RESERVED, (
            "addmod", "bit", "else", "fun", "if", "loop", "low", "mulmod",
            "pick", "public", "secret", "submod", "to", "var"))

    def test_lengths(self):
        self.assertIs(is_name("a"), True)
        self.assertIs(is_name("z" * 12), True)
        self.assertIs(is_name("z" * 13), False)
        self.assertIs(is_name(""), False)

    def test_letters(self):
        self.assertIs(is_name("abcdefghijkl"), True)
        self.assertIs(is_name("mnopqrstuvwx"), True)
        self.assertIs(is_name("yz"), True)
        for letter in ("A", "Z", "`", "{", "_", "0", " ", "\n", "-", "\u00e4", "\u0430", "\u00df"):
            self.assertIs(is_name(letter), False, letter)
            self.assertIs(is_name("a" + letter + "b"), False, letter)
            self.assertIs(is_name("a" + letter), False, letter)

    def test_reserved_are_no_names(self):
        for word in RESERVED:
            self.assertIs(is_name(word), False)
            self.assertIs(is_name(word + "x"), True)
        for word in ("set", "put", "call", "add", "int", "name", "item", "less", "up"):
            self.assertIs(is_name(word), True)

    def test_no_strings(self):
        for value in (None, True, 1, b"a", ("a",), ["a"], ()):
            self.assertIs(is_name(value), False)


class IntegersTest(unittest.TestCase):
    def test_bounds(self):
        for value, right in ((2, False), (3, True), (4, True), (5, True), (6, False)):
            self.assertIs(is_integer(value, 3, 5), right)
        self.assertIs(is_integer(-1, -1, 0), True)
        self.assertIs(is_integer(MOST, 0, MOST), True)
        self.assertIs(is_integer(MOST + 1, 0, MOST), False)

    def test_other_kinds(self):
        for value in (True, False, None, "1", "", (1,), [1], b"1"):
            self.assertIs(is_integer(value, 0, 5), False)


class VariablesTest(unittest.TestCase):
    def test_right(self):
        for value in (
            ("x", "secret", 9, 0), ("x", "public", 9, 0), ("x", "secret", 0, 0),
            ("x", "secret", MOST, 0), ("x", "secret", 9, 1), ("x", "secret", 9, 64),
            ("abcdefghijkl", "public", MOST, 64),
        ):
            self.assertIs(is_variable(value), True, value)

    def test_wrong(self):
        for value in (
            ("", "secret", 9, 0), ("a" * 13, "secret", 9, 0), ("if", "secret", 9, 0),
            ("X", "secret", 9, 0), (1, "secret", 9, 0), (None, "secret", 9, 0),
            ("x", "open", 9, 0), ("x", "", 9, 0), ("x", True, 9, 0), ("x", None, 9, 0),
            ("x", ("secret",), 9, 0), ("x", "Secret", 9, 0), ("x", ["public"], 9, 0),
            ("x", "secret", -1, 0), ("x", "secret", MOST + 1, 0), ("x", "secret", True, 0),
            ("x", "secret", "9", 0), ("x", "secret", None, 0), ("x", "secret", (9,), 0),
            ("x", "secret", 9, -1), ("x", "secret", 9, 65), ("x", "secret", 9, False),
            ("x", "secret", 9, True), ("x", "secret", 9, "0"), ("x", "secret", 9, None),
            ("x", "secret", 9), ("x", "secret", 9, 0, 0), (), ["x", "secret", 9, 0],
            "x", None, 5, True, {"x": 1},
        ):
            self.assertIs(is_variable(value), False, value)


class ValuesTest(unittest.TestCase):
    def test_single(self):
        single = ("x", "secret", 9, 0)
        for value in (0, 1, 9):
            self.assertIs(is_value(single, value), True)
        for value in (10, -1, True, False, None, "5", (5,), [5], ()):
            self.assertIs(is_value(single, value), False, value)

    def test_single_bounds(self):
        self.assertIs(is_value(("x", "secret", 0, 0), 0), True)
        self.assertIs(is_value(("x", "secret", 0, 0), 1), False)
        self.assertIs(is_value(("x", "public", MOST, 0), MOST), True)
        self.assertIs(is_value(("x", "public", MOST, 0), MOST + 1), False)

    def test_array(self):
        row = ("x", "secret", 9, 3)
        for value in ((0, 0, 0), (9, 9, 9), (0, 9, 5)):
            self.assertIs(is_value(row, value), True)
        for value in (
            (0, 0), (0, 0, 0, 0), (), [0, 0, 0], (10, 0, 0), (0, 10, 0), (0, 0, 10),
            (0, 0, -1), (-1, 0, 0), (0, True, 0), (0, False, 0), (0, None, 0), (0, "0", 0),
            (0, (0,), 0), 0, 3, None, True, "000",
        ):
            self.assertIs(is_value(row, value), False, value)

    def test_array_sizes(self):
        self.assertIs(is_value(("x", "secret", 9, 1), (9,)), True)
        self.assertIs(is_value(("x", "secret", 9, 1), 9), False)
        self.assertIs(is_value(("x", "secret", 9, 1), ()), False)
        self.assertIs(is_value(("x", "secret", 9, 64), (9,) * 64), True)
        self.assertIs(is_value(("x", "secret", 9, 64), (9,) * 63), False)
        self.assertIs(is_value(("x", "secret", 9, 64), (9,) * 65), False)

    def test_zero(self):
        zero = zero_value(("x", "secret", 9, 0))
        self.assertEqual(zero, 0)
        self.assertIs(isinstance(zero, bool), False)
        self.assertEqual(zero_value(("x", "secret", 9, 1)), (0,))
        self.assertEqual(zero_value(("x", "public", 0, 64)), (0,) * 64)

    def test_zero_is_a_value(self):
        for size in (0, 1, 7, 64):
            variable = ("x", "secret", 0, size)
            self.assertIs(is_value(variable, zero_value(variable)), True)


if __name__ == "__main__":
    unittest.main()
