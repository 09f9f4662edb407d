import unittest

from quietsmith.errors import BadProgram
from quietsmith.forms import check_shape
from quietsmith.values import MOST
from tests.helpers import (
    ONE, SET, X, Y, deep_expression, deep_statement, letters, program_of, refusal, wide_expression,
)

NO_NUMBERS = (True, False, None, "1", "", (1,), [1], ("int", 1))
NO_NAMES = ("", "a" * 13, "if", "X", "a1", "a b", 1, 0, None, True, ("x",), ["x"], b"x")
NO_EXPRESSIONS = (
    (), ("int",), ("none", 1), 1, "x", None, True, [], ["int", 1], ("name",), (1, 2), (None,),
    ((),), (["int"], 1), (("int", 1),), ("", 1), ("set", "y", ONE), ("Int", 1),
    ("add", ("int", 1), ["int", 1]), {"int": 1},
)
NO_BODIES = (None, 1, True, "x", [], [SET], SET, ((),), (1,), ("set",), (ONE,), ([*SET],), {"x": 1})

# The right parts for each letter, and the wrong ones.
RIGHT = {"a": ONE, "x": "v", "n": 5, "k": 5, "m": 5, "t": 5, "b": (SET,), "g": ("v", "w"),
         "v": (ONE, ONE)}
WRONG = {
    "a": NO_EXPRESSIONS,
    "x": NO_NAMES,
    "n": NO_NUMBERS + (-1, MOST + 1),
    "k": NO_NUMBERS + (-1, 256),
    "m": NO_NUMBERS + (-1, 0, 1, MOST + 1),
    "t": NO_NUMBERS + (-1, 1024),
    "b": NO_BODIES,
    "g": (None, 1, True, "v", [], ["v"], (), ("v", "v"), ("v", "w", "v"), ("if",), (1,), ("v", None),
          (("v",),), ("a", "b", "c", "d", "e")),
    "v": (None, 1, True, "v", [], [ONE], ("x",), (1,), (ONE, None), ONE, (ONE,) * 9),
}
EDGES = {"n": (0, MOST), "k": (0, 255), "m": (2, MOST), "x": ("a", "z" * 12),
         "v": ((), (ONE,) * 8), "g": (("v",), ("a", "b", "c", "d")), "b": ((), (SET,) * 24)}

EXPRESSIONS = (
    ("int", "n"), ("name", "x"), ("item", "xa"), ("add", "aa"), ("mul", "aa"), ("sub", "aak"),
    ("less", "aa"), ("same", "aa"), ("and", "aa"), ("or", "aa"), ("xor", "aa"), ("down", "ak"),
    ("up", "ak"), ("low", "ak"), ("bit", "aa"), ("pick", "aaa"), ("addmod", "aam"),
    ("submod", "aam"), ("mulmod", "aam"),
)
STATEMENTS = (
    ("set", "xa"), ("put", "xaa"), ("loop", "xttb"), ("if", "abb"), ("call", "gxv"),
)


def node_of(head, kinds):
    return (head,) + tuple(RIGHT[kind] for kind in kinds)


class FormsTest(unittest.TestCase):
    def right(self, value):
        self.assertIs(check_shape(value), value)

    def wrong(self, value):
        error = refusal(BadProgram, check_shape, value)
        self.assertIsNotNone(error, value)
        self.assertEqual(error.reason, "shape")

    def look(self, rows, wrap):
        for head, kinds in rows:
            node = node_of(head, kinds)
            self.right(wrap(node))
            self.wrong(wrap(list(node)))
            self.wrong(wrap(node + (1,)))
            self.wrong(wrap(node + (ONE,)))
            for at, kind in enumerate(kinds, 1):
                self.wrong(wrap(node[:at] + node[at + 1:]))
                for part in WRONG[kind]:
                    self.wrong(wrap(node[:at] + (part,) + node[at + 1:]))
                for part in EDGES.get(kind, ()):
                    self.right(wrap(node[:at] + (part,) + node[at + 1:]))

    def test_expressions(self):
        self.look(EXPRESSIONS, lambda node: program_of(("set", "y", node)))
        self.look(EXPRESSIONS, lambda node: program_of(("put", "y", ONE, node)))
        self.look(EXPRESSIONS, lambda node: program_of(("call", ("y",), "g", (ONE, node))))

    def test_operands(self):
        self.look(EXPRESSIONS, lambda node: program_of(("if", ("pick", ONE, ONE, node), (), ())))

    def test_statements(self):
        self.look(STATEMENTS, lambda node: program_of(SET, node))

    def test_inner_statements(self):
        self.look(STATEMENTS, lambda node: program_of(("loop", "k", 0, 1, (SET, node))))
        self.look(STATEMENTS, lambda node: program_of(("if", ONE, (), (node,))))

    def test_unknown_heads(self):
        for head in ("", "none", "Set", "int", "while", None, 1, True, ("set",), ["set"]):
            self.wrong(program_of((head, "y", ONE)))

    def test_loop_bounds(self):
        for first, last in ((0, 0), (0, 1023), (1023, 1023), (5, 6)):
            self.right(program_of(("loop", "k", first, last, ())))
        for first, last in ((1, 0), (1023, 1022), (-1, 0), (0, 1024), (1024, 1024)):
            self.wrong(program_of(("loop", "k", first, last, ())))

    def test_functions(self):
        right = ("f", (X,), (Y,), (("z", "public", 0, 64),), (SET,))
        self.right((right,))
        self.wrong(([*right],))
        self.wrong((right + ((),),))
        for at in range(5):
            self.wrong((right[:at] + right[at + 1:],))
            for part in (None, 1, True, "", [], [X], (1,), ("x",), (None,), (X, 1)):
                self.wrong((right[:at] + (part,) + right[at + 1:],))
        for name in NO_NAMES:
            self.wrong(((name,) + right[1:],))
        for body in NO_BODIES:
            self.wrong((right[:4] + (body,),))

    def test_variables(self):
        for variable in (
            ("if", "secret", 9, 0), ("v", "hidden", 9, 0), ("v", "secret", MOST + 1, 0),
            ("v", "secret", 9, 65), ("v", "secret", 9), ("v", "secret", 9, 0, 0),
            ["v", "secret", 9, 0], ("v", "secret", True, 0), ("v", "secret", 9, False),
        ):
            self.wrong(program_of(SET, params=(variable,)))
            self.wrong(program_of(SET, results=(variable,)))
            self.wrong(program_of(SET, results=(Y, variable)))
            self.wrong(program_of(SET, others=(variable,)))
        for variable in (("v", "secret", 0, 0), ("v", "public", MOST, 64)):
            self.right(program_of(SET, params=(variable,)))
            self.right(program_of(SET, results=(variable,)))
            self.right(program_of(SET, others=(variable,)))

    def test_numbers_of_variables(self):
        row = tuple((letters(at), "secret", 1, 0) for at in range(20))
        self.right(program_of(params=row[:8]))
        self.wrong(program_of(params=row[:9]))
        self.right(program_of(results=row[:1]))
        self.right(program_of(results=row[:4]))
        self.wrong(program_of(results=row[:5]))
        self.wrong(program_of(results=()))
        self.right(program_of(others=row[:12]))
        self.wrong(program_of(others=row[:13]))
        many = tuple((letters(at), "secret", 1, 0) for at in range(24))
        self.right(program_of(params=many[:8], results=many[8:12], others=many[12:]))

    def test_numbers_of_statements(self):
        self.right(program_of())
        self.right(program_of(*[SET] * 24))
        self.wrong(program_of(*[SET] * 25))
        self.right(program_of(("loop", "k", 0, 1, (SET,) * 24)))
        self.wrong(program_of(("loop", "k", 0, 1, (SET,) * 25)))
        self.right(program_of(("if", ONE, (SET,) * 24, (SET,) * 24)))
        self.wrong(program_of(("if", ONE, (SET,) * 25, ())))
        self.wrong(program_of(("if", ONE, (), (SET,) * 25)))

    def test_numbers_of_functions(self):
        functions = tuple((letters(at), (), (Y,), (), ()) for at in range(9))
        self.right(functions[:1])
        self.right(functions[:8])
        self.wrong(functions)
        self.wrong(())

    def test_different_variables(self):
        same = ("v", "public", 3, 2)
        other = ("v", "secret", 9, 0)
        self.wrong(program_of(params=(same, other)))
        self.wrong(program_of(results=(same, other)))
        self.wrong(program_of(others=(same, other)))
        self.wrong(program_of(params=(same,), results=(other,)))
        self.wrong(program_of(params=(same,), others=(other,)))
        self.wrong(program_of(results=(same,), others=(other,)))
        self.wrong(program_of(params=(X, same), results=(Y,), others=(other,)))

    def test_different_functions(self):
        first = ("f", (), (Y,), (), ())
        self.wrong((first, first))
        self.wrong((first, ("g", (), (Y,), (), ()), first))
        self.right((first, ("g", (), (Y,), (), ())))

    def test_names_that_can_be_equal(self):
        variable = ("f", "secret", 9, 0)
        self.right((("f", (variable,), (Y,), (), (("loop", "f", 0, 1, ()),)),
                    ("y", (variable,), (Y,), (), ())))

    def test_unknown_names(self):
        self.right(program_of(
            ("set", "a", ("name", "b")), ("put", "c", ONE, ONE), ("call", ("d",), "e", ())))

    def test_nodes(self):
        # A function, a result and 18 statements with 20 and 6 with 19 nodes in their expressions.
        sizes = [20] * 18 + [19] * 6
        body = [("set", "y", wide_expression(size)) for size in sizes]
        self.right(program_of(*body))
        self.wrong(program_of(*body, others=(X,)))
        self.wrong(program_of(*body, params=(X,)))
        self.wrong(program_of(*body, results=(X, Y)))
        self.wrong(program_of(("set", "y", wide_expression(21)), *body[1:]))
        self.wrong(program_of(("put", "y", ONE, wide_expression(20)), *body[1:]))
        self.wrong((("g", (), (Y,), (), ()),) + program_of(*body))

    def test_nodes_of_each_kind(self):
        # 498 nodes: another function with its result, but no further node, can stand before them.
        sizes = [20] * 16 + [19] * 8
        body = [("set", "y", wide_expression(size)) for size in sizes]
        rest = program_of(*body)
        other = ("g", (), (Y,), (), ())
        self.right((other,) + rest)
        self.wrong((("g", (X,), (Y,), (), ()),) + rest)
        self.wrong((("g", (), (Y,), (), (("loop", "k", 0, 1, ()),)),) + rest)
        self.right(program_of(*body, params=(X,), others=(("z", "secret", 9, 0),)))
        inner = ("loop", "k", 0, 1, (("loop", "l", 0, 1, ()),))
        shorter = program_of(*body[:23], inner)
        self.right(shorter)
        # The last statement had 1 + 19 nodes, and the loops have 2.
        self.right(program_of(*body[:22], ("set", "y", wide_expression(37)), inner,
                              params=(X,), others=(("z", "secret", 9, 0),)))
        self.right(program_of(*body[:22], ("set", "y", wide_expression(39)), inner))
        self.wrong(program_of(*body[:22], ("set", "y", wide_expression(40)), inner))

    def test_nodes_of_calls(self):
        sizes = [20] * 17 + [19] * 6
        body = [("set", "y", wide_expression(size)) for size in sizes]
        # The call replaces a statement with 21 nodes.
        self.right(program_of(*body, ("call", ("y", "z"), "g", (wide_expression(10),) * 2)))
        self.wrong(program_of(*body, ("call", ("y",), "g", (wide_expression(10),) * 2 + (ONE,))))

    def test_many_nodes_end_soon(self):
        shared = ONE
        for _ in range(14):
            shared = ("pick", shared, shared, shared)
        self.wrong(program_of(("set", "y", shared)))
        body = (SET,)
        for _ in range(12):
            body = (("if", ONE, body * 24, body * 24),)
        self.wrong(program_of(*body))

    def test_depth_of_expressions(self):
        self.right(program_of(("set", "y", deep_expression(15))))
        self.wrong(program_of(("set", "y", deep_expression(16))))
        self.right(program_of(("put", "y", deep_expression(15), deep_expression(15))))
        self.wrong(program_of(("put", "y", deep_expression(16), ONE)))
        self.wrong(program_of(("put", "y", ONE, deep_expression(16))))
        self.right(program_of(("call", ("y",), "g", (ONE, deep_expression(15)))))
        self.wrong(program_of(("call", ("y",), "g", (ONE, deep_expression(16)))))
        self.right(program_of(("if", deep_expression(15), (), ())))
        self.wrong(program_of(("if", deep_expression(16), (), ())))

    def test_depth_of_statements(self):
        self.right(program_of(deep_statement(16)))
        self.wrong(program_of(deep_statement(17)))
        self.right(program_of(deep_statement(15, SET)))
        self.wrong(program_of(deep_statement(16, SET)))
        self.right(program_of(deep_statement(16, ("call", ("y",), "g", ()))))
        self.wrong(program_of(deep_statement(16, ("call", ("y",), "g", (ONE,)))))
        self.right(program_of(deep_statement(5, ("set", "y", deep_expression(11)))))
        self.wrong(program_of(deep_statement(5, ("set", "y", deep_expression(12)))))

    def test_depth_within_if(self):
        made = ("loop", "k", 0, 0, ())
        for _ in range(15):
            made = ("if", ONE, (), (made,))
        self.right(program_of(made))
        self.wrong(program_of(("if", ONE, (), (made,))))
        self.wrong(program_of(("if", ONE, (made,), ())))

    def test_depth_of_items(self):
        made = ONE
        for _ in range(14):
            made = ("item", "r", made)
        self.right(program_of(("set", "y", made)))
        self.wrong(program_of(("set", "y", ("item", "r", made))))

    def test_very_deep_values(self):
        expression = ONE
        statement = SET
        value = ()
        for _ in range(20000):
            expression = ("low", expression, 1)
            statement = ("if", ONE, (statement,), ())
            value = (value,)
        self.assertEqual(refusal(BadProgram, check_shape, value).reason, "shape")
        for body in ((("set", "y", expression),), (statement,)):
            error = refusal(BadProgram, check_shape, program_of(*body))
            self.assertEqual(error.reason, "shape")

    def test_no_programs(self):
        good = program_of(SET)
        self.right(good)
        for value in (None, True, False, 0, 1, "", "fun f() to (secret y 9) { }", b"x", (), [], {},
                      list(good), good[0], [good], (good,), ((),), (1,), (None,), ("f",), good + (1,),
                      good + (None,), object(), 1.5):
            self.wrong(value)


if __name__ == "__main__":
    unittest.main()
