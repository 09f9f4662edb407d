"""Points 710 and 711: scripts."""

import unittest

from quietsmith.builders import inverse_program, ladder_program, power_program
from quietsmith.compiler import compile_program
from quietsmith.errors import BadScript, QuietError
from quietsmith.judge import judge
from quietsmith.layouts import layout_end
from quietsmith.running import run_compiled
from quietsmith.scripts import first_difference, run_script
from quietsmith.syntax import parse_program
from quietsmith.values import MOST
from tests.compiled import run
from tests.helpers import refusal
from tests.test_builders import climbed

ADD = "fun f(secret x 9, public y 9) to (secret z 18) { z = (x + y); }"
ROWS = ("fun f(secret x 99 [3], public y 7) to (secret z 99 [3], public w 8, secret v 99) "
        "{ z[1] = x[2]; w = (y + 1); v = x[0]; }")
NONE = "fun f() to (public z 18) { z = 7; }"
ONE_ITEM = "fun f(public x 9 [1]) to (public z 9 [1]) { z[0] = x[0]; }"
# The number of steps depends on the public input.
TURNS = "fun f(public n 1) to (public z 1) { if n { } else { z = 1; } }"
LONG = "fun f(public n 9) to (public z 9) { loop i 0 to 999 { loop j 0 to 17 { z = low((n + n), 3); } } }"


def made(text):
    return f"made {len(compile_program(parse_program(text))[1])}"


class ScriptCase(unittest.TestCase):
    def answers(self, expected, *lines):
        found = run_script("\n".join(lines))
        self.assertIs(type(found), list)
        self.assertEqual(found, expected)

    def behind(self, text, *pairs):
        """Asks for the answers to lines behind the line with the text."""
        self.answers([made(text)] + [answer for _, answer in pairs], "text " + text, *[line for line, _ in pairs])

    def refused(self, line, reason, *lines):
        error = refusal(BadScript, run_script, "\n".join(lines))
        self.assertIsNotNone(error, lines)
        self.assertEqual((error.line, error.reason), (line, reason), lines)


class CommandsTest(ScriptCase):
    def test_no_commands(self):
        self.answers([])
        self.answers([], "", "", "")

    def test_made_by_numbers(self):
        for line, program in (("power 101 7", power_program(101, 7)), ("power 3 1", power_program(3, 1)),
                              (f"power {MOST} 255", power_program(MOST, 255)), ("inverse 3", inverse_program(3)),
                              (f"inverse {MOST}", inverse_program(MOST)), ("ladder 5 0 1", ladder_program(5, 0, 1)),
                              ("ladder 5 4 255", ladder_program(5, 4, 255)),
                              (f"ladder {MOST} {MOST - 1} 2", ladder_program(MOST, MOST - 1, 2))):
            self.answers([f"made {len(compile_program(program)[1])}"], line)

    def test_text(self):
        for text in (ADD, ROWS, NONE, ONE_ITEM, TURNS, LONG, "  " + ADD + "  "):
            self.answers([made(text)], "text " + text)

    def test_run(self):
        program = parse_program(ADD)
        _, steps, cycles = run_compiled(program, (4, 5), 1000)
        self.behind(ADD, ("run 4 5", f"gave 9; steps {steps}; cycles {cycles}"),
                    ("run 9 9", f"gave 18; steps {steps}; cycles {cycles}"),
                    ("run 0 0", f"gave 0; steps {steps}; cycles {cycles}"))

    def test_values(self):
        for text, words, inputs, outputs in (
                (ROWS, "1,2,3 7", ((1, 2, 3), 7), "0,3,0 8 1"), (ROWS, "99,99,99 0", ((99,) * 3, 0), "0,99,0 1 99"),
                (ROWS, "0,0,0 0", ((0,) * 3, 0), "0,0,0 1 0"), (NONE, None, (), "7"), (ONE_ITEM, "9", ((9,),), "9")):
            _, steps, cycles = run_compiled(parse_program(text), inputs, 1000)
            line = "" if words is None else " " + words
            self.behind(text, ("run" + line, f"gave {outputs}; steps {steps}; cycles {cycles}"),
                        ("mean" + line, f"means {outputs}"))

    def test_great_values(self):
        text = f"fun f(secret x {MOST}) to (secret y {MOST}) {{ y = x; }}"
        self.behind(text, (f"mean {MOST}", f"means {MOST}"), (f"mean {MOST // 7}", f"means {MOST // 7}"))

    def test_watch(self):
        _, steps, _ = run_compiled(parse_program(ADD), (1, 2), 1000)
        self.behind(ADD, ("watch 1 2 | 9 2", f"same {steps}"), ("watch 1 2 | 1 2", f"same {steps}"),
                    ("watch 1 2 | 1 3", f"same {steps}"))
        _, steps, _ = run_compiled(parse_program(NONE), (), 1000)
        self.behind(NONE, ("watch |", f"same {steps}"))

    def test_watch_with_a_difference(self):
        """The first step that is not the same, or behind the last step of the one that ends first."""
        first = self.shown(TURNS, (0,))
        second = self.shown(TURNS, (1,))
        step = next(at + 1 for at, (one, other) in enumerate(zip(first, second)) if one != other)
        self.behind(TURNS, ("watch 0 | 1", f"other {step}"), ("watch 1 | 0", f"other {step}"),
                    ("watch 1 | 1", f"same {len(second)}"), ("watch 0 | 0", f"same {len(first)}"))
        self.assertLess(step, min(len(first), len(second)))

    def test_the_first_difference(self):
        self.assertEqual(first_difference([1, 2, 3], [1, 2, 3]), 0)
        self.assertEqual(first_difference([1, 2, 3], [1, 5, 3]), 2)
        self.assertEqual(first_difference([1, 2, 3], [1, 2]), 3)
        self.assertEqual(first_difference([1], [1, 2, 3]), 2)
        self.assertEqual(first_difference([], []), 0)

    def shown(self, text, inputs):
        program = parse_program(text)
        return run(program, compile_program(program), inputs).shown()

    def test_size_and_judge(self):
        for text in (ADD, ROWS, NONE, LONG):
            layout, code, _, _ = compile_program(parse_program(text))
            self.behind(text, ("size", f"instructions {len(code)}; regions {len(layout)}; words {layout_end(layout)}"),
                        ("judge", f"taken {judge((layout, code))}"))

    def test_the_program_is_the_last_one(self):
        self.answers([made(ADD), "means 9", made(NONE), "means 7", "made 76", "means 4"],
                     "text " + ADD, "mean 4 5", "text " + NONE, "mean", "power 101 1", "mean 4 1")

    def test_made_programs(self):
        answers = run_script("power 101 8\nmean 3 200\nrun 3 200\nwatch 3 200 | 99 0\ninverse 101\nmean 7\nrun 7\n"
                             "ladder 101 5 6\nmean 4 33\nrun 4 33\nwatch 4 33 | 100 63\njudge")
        self.assertEqual(answers[1], f"means {pow(3, 200, 101)}")
        self.assertTrue(answers[2].startswith(f"gave {pow(3, 200, 101)}; steps "))
        self.assertTrue(answers[3].startswith("same "))
        self.assertEqual(answers[5], f"means {pow(7, -1, 101)}")
        self.assertTrue(answers[6].startswith(f"gave {pow(7, -1, 101)}; "))
        top, bottom = climbed(101, 5, 4, 33, 6)
        self.assertEqual(answers[8], f"means {top} {bottom}")
        self.assertTrue(answers[9].startswith(f"gave {top} {bottom}; "))
        self.assertTrue(answers[10].startswith("same "))
        self.assertTrue(answers[11].startswith("taken "))

    def test_empty_lines(self):
        self.answers([made(NONE), "means 7"], "", "text " + NONE, "", "", "mean", "", "")


class RefusalTest(ScriptCase):
    def test_command(self):
        for line in ("made 5", "Run 1", "run\t1", " run", " ", "  ", "powers 3 1", "text\t" + ADD, "|", "0", "\t", "judge\r"):
            self.refused(1, "command", line)
            self.refused(4, "command", "", "text " + ADD, "", line)
        self.refused(1, "command", "made", "also")

    def test_words(self):
        for line in ("power", "power 3", "power 3 1 1", "power x", "inverse", "inverse 3 1", "inverse 3 ",
                     "ladder", "ladder 5", "ladder 5 1", "ladder 5 1 1 1", "power  3 1", "power 3 1 ", "size 1",
                     "size ", "judge ", "judge 4", "text", "watch", "watch 1 2", "watch 1 2 3 4", "watch | |",
                     "watch 1 2 | 1 2 |", "watch 1 2 || 1 2", "watch 1 2|1 2", "watch x", "ladder x x"):
            self.refused(1, "words", line)
            self.refused(2, "words", "text " + ADD, line)

    def test_number(self):
        for line in ("power 2 1", "power 1 1", "power 0 1", "power 4 1", f"power {MOST + 1} 1", f"power {MOST + 2} 1",
                     "power 3 0", "power 3 256", "inverse 1", "inverse 2", "inverse 0", f"inverse {MOST + 2}",
                     "ladder 3 0 1", "ladder 1 0 1", "ladder 6 0 1", "ladder 5 5 1", "ladder 5 0 0", "ladder 5 0 256",
                     f"ladder {MOST + 2} 0 1", "power 03 1", "power 3 01", "power +3 1", "power -3 1", "power x 1",
                     "power 3 x", "power 3, 1", "power 3,5 1", "power 3 1,2", "inverse ", "ladder 5 -1 1",
                     "ladder 5 x 1", "inverse 0x5", "inverse 5.0", "inverse 1_1", "inverse " + "1" * 79, "power 3 ", "inverse |"):
            self.refused(1, "number", line)

    def test_number_in_values(self):
        for words in ("x 5", "4 x", "04 5", "4 05", "+4 5", "-4 5", "4  5", "4 5 ", "", "4 5,", ",4 5", "4,,5 5",
                      "4 5 x", "1" * 79 + " 5", "4 " + "0" * 2, "4;5", "4.0 5", "1,x 5", "1,02 5", "x"):
            for name in ("run", "mean"):
                self.refused(2, "number", "text " + ADD, f"{name} {words}")
                self.refused(1, "number", f"{name} {words}")
            self.refused(2, "number", "text " + ADD, f"watch {words} | 4 5")
            self.refused(2, "number", "text " + ADD, f"watch 4 5 | {words}")

    def test_numbers_of_78_digits(self):
        self.refused(2, "input", "text " + ADD, "run 4 " + "1" * 78)
        self.refused(2, "number", "text " + ADD, "run 4 " + "1" * 79)
        self.refused(1, "number", "inverse " + "9" * 78)

    def test_program(self):
        for text in ("", " ", "x", ADD[:-1], ADD + "x", ADD.replace("9", "09"), ADD.replace("18", "17"),
                     ADD.replace("x + y", "x + w"), ADD.replace("secret z", "public z"), "text " + ADD,
                     ADD.replace("x 9, ", "x 9 9, "), "fun f() to () { }", "fun f() to (secret y 9, secret y 9) { }",
                     ADD + " " + ADD):
            self.refused(1, "program", "text " + text)
            self.refused(2, "program", "text " + ADD, "text " + text)
        for line in ("run 4 5", "run", "mean", "mean 4 5", "watch 4 5 | 4 5", "watch |", "size", "judge"):
            self.refused(1, "program", line)
            self.refused(3, "program", "", "", line, "nothing")

    def test_a_program_of_more_than_8000_characters(self):
        self.answers([made(ADD)], "text " + " " * (8000 - len(ADD)) + ADD)
        self.refused(1, "program", "text " + " " * (8001 - len(ADD)) + ADD)

    def test_input(self):
        for words in ("4", "4 5 6", "10 5", "4 10", "4,5 5", "4 5,5", "4,5", f"{MOST} 5"):
            for name in ("run", "mean"):
                self.refused(2, "input", "text " + ADD, f"{name} {words}")
            self.refused(2, "input", "text " + ADD, f"watch {words} | 4 5")
            self.refused(2, "input", "text " + ADD, f"watch 4 5 | {words}")
        self.refused(2, "input", "text " + ADD, "run")
        self.refused(2, "input", "text " + ADD, "watch 4 5 |")
        self.refused(2, "input", "text " + ADD, "watch | 4 5")
        self.refused(2, "input", "text " + NONE, "run 0")
        for words in ("1,2 7", "1,2,3,4 7", "1 7", "1,2,100 7", "1,2,3 8", "1,2,3", "1,2,3 7 7", "1,2,3 7,7"):
            self.refused(2, "input", "text " + ROWS, "mean " + words)
        self.refused(2, "input", "text " + ONE_ITEM, "run 1,1")

    def test_large(self):
        # Each product of this size is a row of its own.
        text = (f"fun f(secret x {MOST - 1}) to (secret y {MOST - 1}) {{ "
                + f"y = mulmod(x, x, {MOST}); " * 8 + "}")
        self.refused(2, "large", "text " + ADD, "text " + text)

    def test_limit(self):
        self.refused(2, "limit", "text " + LONG, "run 4")
        self.refused(2, "limit", "text " + LONG, "watch 4 | 4")
        # The meaning has no steps, and nothing but steps is counted.
        self.answers([made(LONG), "means 6"], "text " + LONG, "mean 7")

    def test_exactly_200000_steps(self):
        text = self.counting(*self.turns(200000))
        _, steps, cycles = run_compiled(parse_program(text), (), 300000)
        self.assertEqual(steps, 200000)
        self.answers([made(text), f"gave 0; steps 200000; cycles {cycles}", "same 200000"],
                     "text " + text, "run", "watch |")

    def test_one_step_more(self):
        text = self.counting(*self.turns(200001))
        self.assertEqual(run_compiled(parse_program(text), (), 300000)[1], 200001)
        self.refused(2, "limit", "text " + text, "run")
        self.refused(2, "limit", "text " + text, "watch |")

    def test_one_run_of_two_takes_too_long(self):
        text = LONG.replace("public n 9", "public m 1, public n 9").replace("{ loop i", "{ if m { loop i") + " else { } }"
        self.refused(2, "limit", "text " + text, "watch 0 4 | 1 4")
        self.refused(2, "limit", "text " + text, "watch 1 4 | 0 4")
        self.assertTrue(run_script("text " + text + "\nwatch 0 4 | 0 5")[1].startswith("same "))

    def counting(self, first, second, zeros):
        """A program that makes more steps with each turn of its loops, and one more with each `z = 0;`."""
        return ("fun f() to (public z 7) { var public w 7; "
                f"loop i 0 to {first} {{ loop j 0 to 17 {{ z = low(((w + w) + (w + z)), 3); }} }} "
                f"loop k 0 to {second} {{ z = 1; }} " + "z = 0; " * (1 + zeros) + "}")

    def turns(self, wanted):
        """What `counting` needs for so many steps."""
        def steps(*turns):
            return run_compiled(parse_program(self.counting(*turns)), (), 10 ** 6)[1]
        least = steps(1, 1, 0)
        by_first, by_second = steps(2, 1, 0) - least, steps(1, 2, 0) - least
        self.assertEqual(steps(1, 1, 1), least + 1)
        first, rest = divmod(wanted - least, by_first)
        second, zeros = divmod(rest, by_second)
        return (1 + first, 1 + second, zeros)

    def test_which_comes_first(self):
        """The reasons in the order of the point, at one line."""
        self.refused(1, "command", "powers x")
        self.refused(1, "words", "power x")
        self.refused(1, "words", "watch x y")
        self.refused(1, "number", "run x")
        self.refused(1, "number", "watch x | 4")
        self.refused(1, "program", "run 99")
        self.refused(1, "program", "watch 4 | x")
        self.refused(2, "number", "text " + ADD, "run 99 x")
        self.refused(2, "number", "text " + ADD, "run 4 5 6 x")
        # The first VALUES come before the second ones.
        self.refused(2, "input", "text " + ADD, "watch 99 5 | x 5")
        self.refused(2, "number", "text " + ADD, "watch 9 5 | x 5")
        self.refused(2, "number", "text " + ADD, "watch x 5 | 99 5")
        self.refused(2, "input", "text " + ADD, "watch 9 5 | 99 5")
        self.refused(2, "input", "text " + LONG, "run 10")
        # The first line that fails.
        self.refused(2, "number", "text " + ADD, "run x 4", "what")
        self.refused(5, "input", "text " + ADD, "run 4 5", "", "mean 4 5", "run 99 4", "run x")

    def test_texts(self):
        for value in (None, 5, True, (), [], b"size", ["size"], {}):
            error = refusal(BadScript, run_script, value)
            self.assertEqual((error.line, error.reason), (0, "command"))
        self.assertEqual(run_script("\n" * 9000), [])
        error = refusal(BadScript, run_script, "\n" * 9001)
        self.assertEqual((error.line, error.reason), (0, "command"))
        self.refused(1, "command", "x" * 9000)
        self.assertEqual(refusal(BadScript, run_script, "x" * 9001).line, 0)
        self.assertIsInstance(error, QuietError)


if __name__ == "__main__":
    unittest.main()
