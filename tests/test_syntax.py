import re
import unittest

from quietsmith.errors import BadText
from quietsmith.forms import check_shape
from quietsmith.printing import program_text
from quietsmith.syntax import parse_program
from quietsmith.values import MOST
from tests.helpers import (
    ONE, SET, X, Y, deep_expression, deep_statement, letters, program_of, refusal, text_of,
)
from tests.making import Maker
from tests.test_printing import EXPRESSIONS, STATEMENTS

TOKEN = re.compile(r"[a-z]+|[0-9]+|==|<<|>>|.")

# A text with every form of point 110.
EVERY = (
    "fun g() to (secret y 9 [3]) { } "
    "fun f(public a 1, secret b 65535 [64]) to (secret y 9, public z 0) "
    "{ var public t 7; var secret u 8 [2]; "
    "y = 0; b[a] = 12; loop k 0 to 1023 { } loop k 1 to 2 { y = a; loop l 3 to 3 { t = k; } } "
    "if a { } else { } if (a == 1) { y = 1; y = 2; } else { if 0 { } else { } } "
    "(u) = g(); (y, z) = h(a, b[1], 3); "
    "y = (a + b); y = (a * b); y = (a < b); y = (a == b); y = (a & b); y = (a | b); } "
    "fun h(secret x 9) to (secret y 9) { "
    "y = (a ^ b); y = (a - b : 255); y = (a >> 0); y = (a << 9); y = low(a, 8); y = bit(a, b); "
    "y = pick(a, b, c); y = addmod(a, b, 2); y = submod(a, b, 3); "
    "y = mulmod((a + b[c[0]]), low(bit(a, 1), 2), 5); }"
)


def tokens_of(text):
    return [token for token in TOKEN.findall(text) if token != " "]


def joined(tokens):
    """The tokens with a space only where two of them would not stay apart."""
    text = ""
    for token in tokens:
        both = text[-1:] + token[:1]
        apart = both.isalpha() and len(both) == 2 or both.isdigit() and len(both) == 2
        if apart or both in ("==", "<<", ">>"):
            text += " "
        text += token
    return text


class SyntaxTest(unittest.TestCase):
    def right(self, text, program):
        self.assertEqual(parse_program(text), program)

    def wrong(self, text, index):
        error = refusal(BadText, parse_program, text)
        self.assertIsNotNone(error, text)
        self.assertEqual(error.index, index, text)

    def wrong_at(self, text):
        """The text has the sign @ before the token at which the error is."""
        index = text.index("@")
        self.wrong(text[:index] + text[index + 1:], index)

    def body_wrong_at(self, statements, **more):
        self.wrong_at(text_of(statements, **more))

    def test_example(self):
        self.right(
            "fun f(secret x 9) to (secret y 18) { y = (x + x); }",
            (("f", (("x", "secret", 9, 0),), (("y", "secret", 18, 0),), (),
              (("set", "y", ("add", ("name", "x"), ("name", "x"))),)),))
        text = "fun f() to (secret y 18) { y = 007; }"
        self.wrong(text, text.index("007"))

    def test_expressions(self):
        for expression, text in EXPRESSIONS:
            program = program_of(("set", "y", expression))
            self.right("fun f() to (secret y 9) { y = " + text + "; }", program)
            self.right(program_text(program), program)

    def test_statements(self):
        for statement, text in STATEMENTS:
            program = program_of(statement, statement)
            self.right("fun f() to (secret y 9) { " + text + " " + text + " }", program)
            self.right(program_text(program), program)

    def test_functions(self):
        t = ("t", "public", 0, 0)
        u = ("u", "secret", MOST, 64)
        for program in (
            program_of(), program_of(params=(X,)), program_of(params=(X, t, u)),
            program_of(results=(Y, t, u)), program_of(others=(t,)), program_of(others=(t, u, X)),
            (("g", (), (Y,), (), ()),) + program_of(),
            (("g", (X,), (u,), (), ()), ("h", (), (t,), (X,), ())) + program_of(),
        ):
            self.right(program_text(program), program)

    def test_spaces(self):
        program = parse_program(EVERY)
        tokens = tokens_of(EVERY)
        self.right(joined(tokens), program)
        self.assertLess(len(joined(tokens)), len(EVERY))
        self.right("  " + "   ".join(tokens) + "  ", program)
        self.right("\n" + "\n".join(tokens) + "\n", program)
        self.right(" \n " + "\n \n".join(tokens) + "\n ", program)
        self.assertEqual(program_text(program), EVERY)

    def test_random_programs(self):
        maker = Maker(1)
        kept = 0
        for _ in range(400):
            program = maker.program()
            text = program_text(program)
            if len(text) <= 8000:
                kept += 1
                self.assertIs(check_shape(program), program)
                self.right(text, program)
                self.right(joined(tokens_of(text)), program)
        self.assertGreater(kept, 300)

    def test_longer_tokens(self):
        self.right("fun f()to(secret y9){loop k1to5{y=(k<<3);}}", program_of(
            ("loop", "k", 1, 5, (("set", "y", ("up", ("name", "k"), 3)),))))
        self.right(text_of("y = (a<b); y = (a==b);"), program_of(
            ("set", "y", ("less", ("name", "a"), ("name", "b"))),
            ("set", "y", ("same", ("name", "a"), ("name", "b")))))
        self.right(text_of("lowest = toad;"), program_of(("set", "lowest", ("name", "toad"))))
        self.body_wrong_at("y = (a<<@b);")
        self.body_wrong_at("y = (a<<@<3);")
        self.body_wrong_at("y = (a < @< 3);")
        self.body_wrong_at("y = (a @= = b);")
        self.body_wrong_at("y = (a==@=b);")
        self.body_wrong_at("y @== 3;")
        self.body_wrong_at("y = (a @> > 3);")
        self.body_wrong_at("y = (a >> @> 3);")
        self.body_wrong_at("loop k 0 @tox { }")
        self.body_wrong_at("lo @op k 0 to 1 { }")
        self.body_wrong_at("y = 1 @2;")

    def test_no_tokens(self):
        """A character that begins no token is an error at its own place, wherever it stands."""
        tokens = tokens_of(EVERY)
        for at in range(len(tokens) + 1):
            before = joined(tokens[:at])
            for sign in ("#", "\t", "\r", "A", "_", ".", "/", "!", "\u00e4", "\u0663", "\u00a0", ">"):
                self.wrong(before + sign + " " + joined(tokens[at:]), len(before))

    def test_ends_too_early(self):
        tokens = tokens_of(EVERY)
        whole = 0
        for at in range(len(tokens)):
            before = joined(tokens[:at])
            error = refusal(BadText, parse_program, before)
            if error is None:
                whole += 1
                self.assertEqual(tokens[at], "fun")
                continue
            self.assertEqual(error.index, len(before))
            self.wrong(before + " \n ", len(before) + 3)
        self.assertEqual(whole, 2)

    def test_empty(self):
        self.wrong("", 0)
        self.wrong(" ", 1)
        self.wrong(" \n\n", 3)

    def test_wrong_tokens(self):
        for text in (
            "@x", "@5", "@f() to (secret y 9) { }", "fun @(", "fun @fun", "fun @if", "fun @5", "fun f @[",
            "fun f() @}", "fun f(@x", "fun f(@,", "fun f(secret @5",
            "fun f(secret @low 5", "fun f(secret x @y", "fun f(secret x @)", "fun f(secret x 5 @6",
            "fun f(secret x 5 @;", "fun f(secret x 5,@)", "fun f(secret x 5 [@]", "fun f(secret x 5 [@x]",
            "fun f(secret x 5 [3 @3", "fun f(secret x 5 [3] @[", "fun f() @{", "fun f() @(",
            "fun f() to @x", "fun f() to () @x", "fun f() to () @fun", "fun f() to () { } @}",
            "fun f() to () { } @x", "fun f() to () { } fun @", "fun f() to () @; }",
        ):
            self.wrong_at(text)

    def test_wrong_tokens_in_bodies(self):
        for statements in (
            "@;", "@5 = y;", "@to", "@fun", "@else", "@low(x, 5);", "@{ }", "@)", "y @y", "y @(", "y @;",
            "y = @;", "y = @)", "y = @}", "y = @if", "y = @loop", "y = @=", "y = 5 @}", "y = x @+ x;",
            "y = (x @)", "y = (x @;", "y = (x @: 5", "y = (x @= x)", "y = (x @, x)", "y = (x @5)",
            "y = (x + @)", "y = (x + x @+ x)", "y = (x + x @: 5)", "y = (x - x @)", "y = (x - x : @x)",
            "y = (x - x : 5 @5", "y = (x >> @x)", "y = (x << @(1 + 1))", "y = (x >> 5 @: 5)", "y = (@)",
            "y = low @x", "y = low(@)", "y = low(x @)", "y = low(x, @x)", "y = low(x, 5 @,",
            "y = bit(x @)", "y = bit(x, x @,", "y = pick(x, x @)", "y = pick(x, x, x @,",
            "y = addmod(x, x @)", "y = addmod(x, x, @x)", "y = submod(x, @,", "y = mulmod(x, x, 5 @,",
            "y = x[@]", "y = x[5 @;", "y = x[5] @[", "y[@] = 5;", "y[5 @= 5;", "y[5] @5", "y[5] = @;",
            "y @, x = 5;", "loop @5", "loop @if", "loop k @x", "loop k 5 @5", "loop k 5 @{",
            "loop k 5 to @x", "loop k 5 to 6 @y", "loop k 5 to 6 { @5", "loop k 5 to 6 { @var secret t 5;",
            "if @{", "if x @}", "if x { } @y", "if x { } @{", "if x { } else @if", "(@5", "(@(", "(x @;",
            "(x, @) = g();", "(@,", "(x) @g", "(x) = @5", "(x) = @(", "(x) = g @;", "(x) = g(@,",
            "(x) = g(x @;", "(x) = g(x, @)", "(x) = g() @}", "(x) = g() @[", "(x + @y", "y = 1; @var",
        ):
            self.body_wrong_at(statements.replace("(x + @y", "(x @+ y"))

    def test_wrong_locals(self):
        for others in ("x @5;", "var @x 5;", "var secret @5", "var secret t @;", "var secret t 5 @,",
                       "var secret t 5 @}", "var secret t 5 [2] @[", "var @var"):
            self.body_wrong_at("", others=others)

    def test_none_of_what_may_be_many(self):
        """The form of points 103 to 105 is looked at only in the end: index 0."""
        self.wrong("fun f() to () { }", 0)
        self.wrong(text_of("() = g();"), 0)
        self.wrong("fun f() to () { } @", 18)

    def test_long_names(self):
        good = "a" * 12
        for form in ("fun {0}() to (secret y 9) {{ }}", "fun f(secret {0} 9) to (secret y 9) {{ }}",
                     "fun f() to (secret y 9) {{ {0} = 1; }}", "fun f() to (secret y 9) {{ y = {0}; }}",
                     "fun f() to (secret y 9) {{ loop {0} 0 to 1 {{ }} }}",
                     "fun f() to (secret y 9) {{ (x, {0}) = g(); }}",
                     "fun f() to (secret y 9) {{ (y) = {0}(); }}",
                     "fun f() to (secret y 9) {{ y = {0}[1]; }}"):
            self.assertIsNotNone(parse_program(form.format(good)))
            text = form.format(good + "a")
            self.wrong(text, text.index(good))
        self.wrong("fun f() to (secret y 9) { } " + "b" * 13, 28)

    def test_long_numbers(self):
        nines = "9" * 78
        self.assertGreater(int(nines), MOST)
        for form in ("fun f() to (secret y {}) {{ }}", "fun f() to (secret y 9) {{ y = {}; }}"):
            self.assertIsNotNone(parse_program(form.format(MOST)))
            for number in (MOST + 1, nines, "1" + "0" * 78, "1" * 79, "9" * 500):
                text = form.format(number)
                self.wrong(text, text.index(str(number)))

    def test_zeros(self):
        for number in ("00", "01", "007", "0" * 78, "0" * 79):
            for form in ("fun f() to (secret y {}) {{ }}", "fun f() to (secret y 9 [{}]) {{ }}",
                         "fun f() to (secret y 9) {{ y = {}; }}",
                         "fun f() to (secret y 9) {{ y = (y >> {}); }}",
                         "fun f() to (secret y 9) {{ loop k {} to 5 {{ }} }}"):
                text = form.format(number)
                self.wrong(text, text.index(number))
        self.assertIsNotNone(parse_program("fun f() to (secret y 0) { y = 0; }"))

    def test_ranges(self):
        rows = (
            ("loop k {} to 1023 {{ }}", 0, 1023), ("loop k 0 to {} {{ }}", 0, 1023),
            ("loop k 5 to {} {{ }}", 5, 1023), ("loop k 1023 to {} {{ }}", 1023, 1023),
            ("y = (y - y : {});", 0, 255), ("y = (y >> {});", 0, 255), ("y = (y << {});", 0, 255),
            ("y = low(y, {});", 0, 255), ("y = addmod(y, y, {});", 2, MOST),
            ("y = submod(y, y, {});", 2, MOST), ("y = mulmod(y, y, {});", 2, MOST),
            ("y = {};", 0, MOST),
        )
        for form, least, greatest in rows:
            for number in (least, greatest):
                self.assertIsNotNone(parse_program(text_of(form.format(number))))
            before = len(text_of("")) - len("  }") + form.index("{}")
            for number in [greatest + 1] + list(range(max(0, least - 2), least)):
                text = text_of(form.format(number))
                start = text.index(form.split("{}")[0]) + len(form.split("{}")[0])
                self.assertGreaterEqual(start, before - 1)
                self.wrong(text, start)

    def test_sizes(self):
        for size in (1, 64):
            self.assertIsNotNone(parse_program(text_of("", results=f"secret y 9 [{size}]")))
        for size in (0, 65, 1000):
            self.wrong_at(text_of("", results=f"secret y 9 [@{size}]"))
            self.wrong_at(text_of("", params=f"public y 9 [@{size}]"))
            self.wrong_at(text_of("", others=f"var public y 9 [@{size}];"))

    def test_depth_of_expressions(self):
        program = program_of(("set", "y", deep_expression(15)))
        self.right(program_text(program), program)
        text = program_text(program_of(("set", "y", deep_expression(16))))
        self.wrong(text, text.index("low(1") + 4)
        for inner in ("(1 + 1)", "x", "bit(1, 1)", "@", ")", "if", "00"):
            text = program_text(program_of(("set", "y", deep_expression(15))))
            self.wrong(text.replace("low(1", "low(low(" + inner), text.index("low(1") + 8)

    def test_depth_in_each_place(self):
        """Fifteen statements around it, and a statement with an expression of depth 17."""
        before = "".join(f"loop {letters(at)} 0 to 0 {{ " for at in range(15))
        after = "} " * 15
        for statement in ("y = @1;", "y[@1] = 2;", "if @1 { } else { }", "(y) = g(@1);", "y = @(",
                          "y = @=", "(y) = g(@,", "y = @low"):
            self.body_wrong_at(before + statement + after)
        for statement in ("loop z 0 to 1 { }", "(y) = g();"):
            self.assertIsNotNone(parse_program(text_of(before + statement + after)))
        for statement in ("loop z 0 to 1 { @y = 1; }", "loop z 0 to 1 { @loop", "loop z 0 to 1 { @(",
                          "loop z 0 to 1 { @5"):
            self.body_wrong_at(before + statement + after)

    def test_greatest_depth_in_each_place(self):
        """Statements of the depth 15, with expressions and statements of the depth 16."""
        before = "".join(f"loop {letters(at)} 0 to 0 {{ " for at in range(14))
        after = "} " * 14
        for statement in ("y = 1;", "y[1] = 2;", "if 1 { } else { }", "(y) = g(1, 2);",
                          "if y { loop z 0 to 1 { } } else { (y) = g(); }"):
            program = parse_program(text_of(before + statement + after))
            self.assertEqual(program_text(program).count("loop v"), 14)
        for statement in ("y = low(@1, 2);", "y[y[@1]] = 2;", "if (@1 + 1) { } else { }", "(y) = g(1, y[@2]);",
                          "if y { y = @1; } else { }", "if y { } else { y = @1; }", "if y { if @y",
                          "if y { } else { if @y", "if y { y[@1", "if y { } else { (y) = g(@"):
            self.body_wrong_at(before + statement + after)

    def test_depth_within_ifs(self):
        for inner in ((), (SET,)):
            made = ("loop", "k", 0, 0, inner)
            for level in range(15):
                made = ("if", ONE, (), (made,)) if level % 2 else ("if", ONE, (made,), ())
            program = program_of(made)
            text = program_text(program)
            if inner:
                self.wrong(text, text.index("y = 1"))
            else:
                self.right(text, program)

    def test_depth_of_parts(self):
        """Expressions of the depths 15 and 16, with operands that are too deep."""
        before = "y = " + "low(" * 13
        for inner in ("(@1 + 1)", "(@(", "(@)", "x[@1]", "pick(@1, 1, 1)", "low(@low"):
            self.body_wrong_at(before + "low(" + inner)
        for inner in ("(1 + (@1 + 1))", "(1 * low(@1", "x[x[@1", "pick(1, 1, x[@1]", "bit(1, (@x",
                      "mulmod(1, (@1", "(1 - (@(", "(bit(@1"):
            self.body_wrong_at(before + inner)

    def test_depth_of_statements(self):
        program = program_of(deep_statement(16))
        self.right(program_text(program), program)
        text = program_text(program_of(deep_statement(17)))
        self.wrong(text, text.index("loop " + letters(17)))

    def test_depth_at_the_end(self):
        text = text_of("y = " + "low(" * 15).rstrip(" }")
        self.wrong(text, len(text))
        text = text_of("y = " + "low(" * 14).rstrip(" }")
        self.wrong(text, len(text))

    def test_no_strings(self):
        for value in (None, True, 0, 5, b"fun f() to (secret y 9) { }", (), [], ("fun",), {}):
            self.wrong(value, 0)

    def test_length(self):
        text = text_of("")
        self.right(text + " " * (8000 - len(text)), program_of())
        self.wrong(text + " " * (8001 - len(text)), 0)
        self.wrong(" " * 8000, 8000)
        self.wrong(" " * 8001, 0)
        self.wrong("fun 5" + " " * 7995, 4)
        self.wrong("fun 5" + " " * 7996, 0)

    def test_wrong_form(self):
        many = ", ".join(f"secret {letters(at)} 9" for at in range(9))
        five = ", ".join(letters(at) for at in range(5))
        thirteen = " ".join(f"var secret {letters(at)} 9;" for at in range(13))
        for text in (
            text_of("", params=many), text_of("", results=", ".join(many.split(", ")[:5])),
            text_of("", others=thirteen), text_of("y = 1; " * 25),
            text_of("loop k 0 to 1 { " + "y = 1; " * 25 + "}"), text_of(f"({five}) = g();"),
            text_of("(y, x, y) = g();"), text_of("(y) = g(1, 2, 3, 4, 5, 6, 7, 8, 9);"),
            text_of("", params="secret y 9"), text_of("", others="var public y 9;"),
            text_of("", params="secret x 9, secret x 9"), text_of("") + " " + text_of(""),
            " ".join(text_of("").replace("f()", letters(at) + "()") for at in range(9)),
        ):
            self.wrong(text, 0)
            self.wrong("\n" + text, 0)
            self.wrong(text + "+", len(text))

    def test_too_many_nodes(self):
        # 24 sets with 20 nodes each; a function, a result, an if with a condition of one node,
        # and another if with one of 15 nodes.
        low = "y = " + "(1 + " * 9 + "1" + ")" * 9 + "; "
        rest = "if " + "(1 + " * 7 + "1" + ")" * 7 + " { } else { } "
        self.assertIsNotNone(parse_program(text_of(low * 23 + "if 1 { " + low + rest + "} else { }")))
        more = rest + "loop l 0 to 1 { } "
        self.wrong(text_of(low * 23 + "if 1 { " + low + more + "} else { }"), 0)

    def test_first_error(self):
        for text in (
            "fun f() to (secret y @00) { y = 00; }",
            "fun f() to (secret y 9) { y = @00; } #",
            "fun f() to (secret y 9 [@65], secret aaaaaaaaaaaaa 9) { }",
            "fun f() to (secret y 9) { y = (y >> @256#; }",
            "fun f() to (secret y 9) { loop k 5 to @4# }",
            "fun f() to (secret y @" + str(MOST + 1) + "#",
            "fun f() to () { } fun @5 # ",
            "fun f() to () { y = 1; } fun f() to () { y = @; }",
            "fun f() to () { y = low(y, @256 00); }",
        ):
            self.wrong_at(text)
        deep = "y = " + "low(" * 15
        self.body_wrong_at(deep + "@1 # ")
        self.body_wrong_at(deep.replace("low(", "low(00, ").replace("low(00", "low(@00", 1))

    def test_arrays_are_read(self):
        self.right("fun f(secret x 9 [64]) to (public y 1 [1]) { y[0] = 1; }", (
            ("f", (("x", "secret", 9, 64),), (("y", "public", 1, 1),), (), (
                ("put", "y", ("int", 0), ONE),)),))


if __name__ == "__main__":
    unittest.main()
