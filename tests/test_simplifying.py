"""Points 800 to 802: shorter programs."""

import unittest

from quietsmith.builders import inverse_program, ladder_program, power_program
from quietsmith.checker import check_program
from quietsmith.compiler import compile_program
from quietsmith.forms import check_shape
from quietsmith.meaning import run_program
from quietsmith.simplifying import simplify
from quietsmith.syntax import parse_program
from quietsmith.values import MOST
from quietsmith.work import work_of_body
from tests.helpers import program_of
from tests.programs import Programs

X = ("name", "x")
Y = ("name", "y")
P = ("name", "p")
BIT = ("name", "b")
P_LOW = ("low", P, 3)
ZERO = ("int", 0)
ONE = ("int", 1)
PARAMS = (("x", "secret", 200, 0), ("p", "public", 9, 0), ("b", "secret", 1, 0), ("r", "secret", 60, 8))
RESULTS = (("y", "secret", MOST, 0),)
OTHERS = (("z", "secret", MOST, 0), ("q", "public", MOST, 0), ("w", "secret", MOST, 4))


def n(number):
    return ("int", number)


class SimplifyCase(unittest.TestCase):
    def body(self, *statements):
        """The body of a program after simplify, in which everything stays as point 802 says."""
        program = check_program(check_shape(program_of(
            *statements, params=PARAMS, results=RESULTS, others=OTHERS)))
        copy = tuple(program)
        simpler = simplify(program)
        self.assertEqual(program, copy)
        self.check_802(program, simpler, ((0, 0, 0, (0,) * 8), (200, 9, 1, (60, 1, 2, 3, 4, 5, 6, 7)), (77, 3, 0, (8,) * 8)))
        return simpler[0][4]

    def check_802(self, program, simpler, rows):
        self.assertEqual(check_program(check_shape(simpler)), simpler)
        self.assertEqual([function[:4] for function in simpler], [function[:4] for function in program])
        works = {}
        for function, other in zip(program, simpler):
            more = work_of_body(function[4], works)
            self.assertLessEqual(work_of_body(other[4], works), more)
            works[function[0]] = more
        for inputs in rows:
            self.assertEqual(run_program(simpler, inputs), run_program(program, inputs))

    def becomes(self, expression, expected):
        """An expression as the value of a `set`."""
        self.assertEqual(self.body(("set", "y", expression)), (("set", "y", expected),), expression)

    def stays(self, *expressions):
        for expression in expressions:
            self.becomes(expression, expression)


class ExpressionsTest(SimplifyCase):
    def test_numbers_alone(self):
        for expression, value in (
                (("add", n(3), n(4)), 7), (("mul", n(3), n(4)), 12), (("sub", n(3), n(4), 7), 255),
                (("sub", n(3), n(4), 255), MOST), (("sub", n(9), n(4), 1), 1), (("less", n(3), n(4)), 1),
                (("less", n(4), n(4)), 0), (("same", n(4), n(4)), 1), (("and", n(12), n(10)), 8),
                (("or", n(12), n(10)), 14), (("xor", n(12), n(10)), 6), (("down", n(9), 2), 2), (("up", n(9), 2), 36),
                (("low", n(9), 3), 1), (("low", n(9), 0), 0), (("bit", n(9), n(3)), 1), (("bit", n(9), n(255)), 0),
                (("pick", ONE, n(5), n(6)), 5), (("pick", ZERO, n(5), n(6)), 6), (("addmod", n(6), n(6), 7), 5),
                (("submod", n(5), n(6), 7), 6), (("mulmod", n(5), n(6), 7), 2), (("add", ZERO, ZERO), 0)):
            self.becomes(expression, n(value))

    def test_not_only_numbers(self):
        self.stays(("add", X, n(4)), ("mul", n(3), X), ("sub", X, n(0), 7), ("less", X, n(0)), ("same", X, X),
                   ("and", X, n(255)), ("or", n(1), X), ("xor", X, X), ("down", X, 2), ("up", X, 2), ("low", X, 3),
                   ("bit", X, n(3)), ("pick", BIT, n(5), n(6)), ("addmod", X, n(6), 701), ("submod", n(0), X, 701),
                   ("mulmod", X, ONE, 701), X, ZERO, n(MOST), ("item", "r", n(3)), ("item", "r", ZERO))

    def test_items(self):
        """An item has no operand of this kind, but its index is simplified."""
        self.becomes(("item", "r", ("add", ONE, ONE)), ("item", "r", n(2)))
        self.becomes(("item", "r", ("add", ZERO, ("low", P, 2))), ("item", "r", ("low", P, 2)))

    def test_zeros_and_ones(self):
        for head in ("add", "or", "xor"):
            self.becomes((head, X, ZERO), X)
            self.becomes((head, ZERO, X), X)
            self.stays((head, X, ONE), (head, ONE, X))
        self.becomes(("mul", X, ONE), X)
        self.becomes(("mul", ONE, X), X)
        for head in ("mul", "and"):
            self.becomes((head, X, ZERO), ZERO)
            self.becomes((head, ZERO, X), ZERO)
        self.stays(("and", X, ONE), ("and", ONE, X), ("mul", X, n(2)), ("mul", n(2), X))
        self.stays(("less", ZERO, X), ("same", ZERO, X), ("sub", X, ZERO, 9), ("sub", ZERO, X, 9))

    def test_shifts_by_nothing(self):
        self.becomes(("down", X, 0), X)
        self.becomes(("up", X, 0), X)
        self.stays(("down", X, 1), ("up", X, 1))
        self.becomes(("down", ("item", "r", P_LOW), 0), ("item", "r", P_LOW))

    def test_low(self):
        self.becomes(("low", X, 0), ZERO)
        self.becomes(("low", X, 8), X)
        self.becomes(("low", X, 255), X)
        self.stays(("low", X, 7), ("low", X, 1))
        # The greatest value of an operation.
        self.becomes(("low", ("add", X, n(55)), 8), ("add", X, n(55)))
        self.stays(("low", ("add", X, n(56)), 8))
        self.becomes(("low", ("mulmod", X, X, 255), 8), ("mulmod", X, X, 255))
        self.becomes(("low", ("mulmod", X, X, 257), 9), ("mulmod", X, X, 257))
        self.stays(("low", ("mulmod", X, X, 259), 8))
        self.becomes(("low", ("less", X, P), 1), ("less", X, P))
        self.becomes(("low", ("item", "r", P_LOW), 6), ("item", "r", P_LOW))
        self.stays(("low", ("item", "r", P_LOW), 5), ("low", ("item", "r", P_LOW), 1))
        self.becomes(("low", ("sub", X, P, 7), 8), ("sub", X, P, 7))
        self.stays(("low", ("sub", X, P, 7), 7))
        self.becomes(("low", ("xor", X, P), 8), ("xor", X, P))
        self.becomes(("low", ("pick", BIT, X, P), 8), ("pick", BIT, X, P))
        self.becomes(("low", ("and", X, P), 4), ("and", X, P))
        self.becomes(("low", ("name", "z"), 0), ZERO)

    def test_low_of_low(self):
        self.becomes(("low", ("low", X, 5), 3), ("low", X, 3))
        # The inner one is less than 2 ** 5, so this is a `low` of something small.
        self.becomes(("low", ("low", X, 3), 5), ("low", X, 3))
        self.becomes(("low", ("low", X, 3), 3), ("low", X, 3))
        self.becomes(("low", ("low", ("low", X, 6), 5), 4), ("low", X, 4))
        self.becomes(("low", ("low", ("name", "z"), 200), 100), ("low", ("name", "z"), 100))
        self.stays(("low", ("down", ("low", X, 5), 1), 3))

    def test_low_in_loops(self):
        body = self.body(("loop", "i", 0, 7, (("set", "y", ("low", ("name", "i"), 3)), ("put", "w", ("low", ("name", "i"), 2), X))))
        self.assertEqual(body, (("loop", "i", 0, 7, (
            ("set", "y", ("name", "i")), ("put", "w", ("low", ("name", "i"), 2), X))),))
        # Each loop has its own greatest value.
        inner = ("set", "y", ("low", ("name", "i"), 3))
        body = self.body(("loop", "i", 0, 7, (inner,)), ("loop", "i", 0, 8, (inner,)))
        self.assertEqual(body, (("loop", "i", 0, 7, (("set", "y", ("name", "i")),)), ("loop", "i", 0, 8, (inner,))))

    def test_pick(self):
        self.becomes(("pick", ONE, X, P), X)
        self.becomes(("pick", ZERO, X, P), P)
        self.becomes(("pick", BIT, X, X), X)
        self.becomes(("pick", ONE, X, X), X)
        self.becomes(("pick", BIT, ("mul", X, X), ("mul", X, X)), ("mul", X, X))
        self.stays(("pick", BIT, X, P), ("pick", BIT, ONE, ZERO), ("pick", BIT, ZERO, ONE))

    def test_modular(self):
        self.becomes(("addmod", X, ZERO, 701), X)
        self.becomes(("submod", X, ZERO, 701), X)
        self.becomes(("addmod", ZERO, X, 701), X)
        self.becomes(("mulmod", ZERO, X, 701), ZERO)
        self.becomes(("mulmod", X, ZERO, 701), ZERO)
        self.stays(("submod", ZERO, X, 701), ("mulmod", X, ONE, 701), ("mulmod", ONE, X, 701), ("addmod", X, ONE, 701))

    def test_operands_first(self):
        """A rule fits what the operands have become."""
        self.becomes(("add", ("mul", ZERO, X), ("low", X, 8)), X)
        self.becomes(("pick", ("less", ONE, n(2)), X, P), X)
        self.becomes(("pick", BIT, ("add", X, ZERO), ("low", X, 9)), X)
        self.becomes(("low", ("pick", ONE, P, X), 4), P)
        self.becomes(("mul", ("add", ONE, n(2)), ("sub", n(5), n(4), 3)), n(3))
        self.becomes(("low", ("or", ("low", X, 3), ZERO), 2), ("low", X, 2))

    def test_once(self):
        """Only the first rule that fits is done at a node: the new node is not looked at again."""
        # The `low` of a `low` becomes one `low`, which would be left out if it were looked at again.
        self.becomes(("low", ("low", ("pick", BIT, X, P), 9), 9), ("pick", BIT, X, P))
        inner = ("low", ("name", "z"), 9)
        self.becomes(("low", inner, 9), inner)
        self.becomes(("low", inner, 4), ("low", ("name", "z"), 4))
        self.becomes(("add", ("pick", BIT, n(3), n(3)), n(4)), n(7))

    def test_the_order_of_the_rules(self):
        self.becomes(("low", n(9), 0), ZERO)
        # `low` with 0 comes before the `low` of something small.
        program = program_of(("set", "y", ("low", ("name", "e"), 0)), results=RESULTS, others=(("e", "secret", 0, 0),))
        self.assertEqual(simplify(program)[0][4], (("set", "y", ZERO),))
        # A pick of equal expressions with a condition that is known.
        self.becomes(("pick", ZERO, X, X), X)
        self.becomes(("mul", ZERO, ONE), ZERO)

    def test_all_places_of_expressions(self):
        zero = ("add", X, ZERO)
        public = ("add", P, ZERO)
        body = self.body(("put", "w", ("low", public, 2), zero), ("if", public, (("set", "y", zero),), (("set", "z", zero),)))
        self.assertEqual(body, (("put", "w", ("low", P, 2), X), ("if", P, (("set", "y", X),), (("set", "z", X),))))

    def test_calls(self):
        text = "fun g(secret a 9, secret b 9 [2]) to (secret c 9, secret d 9 [2]) { c = (a + 0); }"
        program = check_program(parse_program(
            text + " fun f(secret x 9, secret s 9 [2]) to (secret y 9, secret t 9 [2]) { (y, t) = g((x * 1), s); }"))
        simpler = simplify(program)
        self.assertEqual(simpler[0][4], (("set", "c", ("name", "a")),))
        self.assertEqual(simpler[1][4], (("call", ("y", "t"), "g", (X, ("name", "s"))),))
        self.check_802(program, simpler, ((5, (1, 2)), (0, (9, 9))))


class BodiesTest(SimplifyCase):
    SET = ("set", "y", X)
    PUT = ("put", "w", ONE, X)
    OTHER = ("set", "z", X)

    def test_a_set_to_itself(self):
        self.assertEqual(self.body(("set", "y", Y)), ())
        self.assertEqual(self.body(("set", "y", ("add", Y, ZERO)), self.PUT, ("set", "y", ("low", Y, 255))),
                         (self.PUT, ("set", "y", ("low", Y, 255))))
        self.assertEqual(self.body(("set", "y", ("name", "z")),), (("set", "y", ("name", "z")),))
        # An item of itself is something else.
        put = ("put", "w", ONE, ("item", "w", ONE))
        self.assertEqual(self.body(put), (put,))

    def test_empty_bodies(self):
        self.assertEqual(self.body(("loop", "i", 0, 9, ())), ())
        self.assertEqual(self.body(("if", P, (), ())), ())
        self.assertEqual(self.body(("if", ONE, (), ())), ())
        kept = ("if", P, (), (self.SET,))
        self.assertEqual(self.body(kept), (kept,))
        kept = ("if", P, (self.SET,), ())
        self.assertEqual(self.body(kept), (kept,))

    def test_inner_bodies_first(self):
        self.assertEqual(self.body(("loop", "i", 0, 9, (("set", "y", Y),))), ())
        self.assertEqual(self.body(("loop", "i", 0, 9, (("if", P, (("loop", "j", 1, 2, ()),), ()),))), ())
        self.assertEqual(self.body(("if", P, (("set", "y", Y),), (("if", P, (), ()),))), ())
        self.assertEqual(self.body(("loop", "i", 0, 9, (("if", ONE, (("set", "y", Y),), (self.SET,)),))), ())

    def test_choices_that_are_known(self):
        self.assertEqual(self.body(("if", ONE, (self.SET, self.PUT), (self.OTHER,))), (self.SET, self.PUT))
        self.assertEqual(self.body(("if", n(7), (self.SET,), ())), (self.SET,))
        self.assertEqual(self.body(("if", ZERO, (self.SET,), (self.OTHER,))), (self.OTHER,))
        self.assertEqual(self.body(("if", ZERO, (self.SET,), ())), ())
        self.assertEqual(self.body(("if", n(MOST), (), (self.SET,))), ())
        self.assertEqual(self.body(("if", ("sub", n(5), n(5), 3), (self.SET,), (self.OTHER,))), (self.OTHER,))
        self.assertEqual(self.body(self.PUT, ("if", ONE, (self.SET,), ()), self.PUT), (self.PUT, self.SET, self.PUT))

    def test_choices_within_choices(self):
        inner = ("if", ONE, (self.SET,), (self.OTHER,))
        self.assertEqual(self.body(("if", ONE, (inner, self.PUT), ())), (self.SET, self.PUT))
        self.assertEqual(self.body(("if", ("sub", ONE, ONE, 0), (self.PUT,), (inner, self.PUT))), (self.SET, self.PUT))
        self.assertEqual(self.body(("loop", "i", 0, 3, (inner,))), (("loop", "i", 0, 3, (self.SET,)),))

    def puts(self, count):
        return tuple(("put", "w", ONE, n(7 * number)) for number in range(count))

    def test_no_more_than_24_statements(self):
        for before, inside, behind, fits in ((0, 24, 0, True), (1, 23, 0, True), (0, 23, 1, True), (1, 24, 0, False),
                                             (0, 24, 1, False), (10, 4, 10, True), (10, 5, 10, False), (23, 1, 0, True),
                                             (0, 1, 23, True), (12, 12, 1, False)):
            choice = ("if", ONE, self.puts(inside), (self.SET,))
            body = (*self.puts(before), choice, *self.puts(behind))
            expected = self.puts(before) + self.puts(inside) + self.puts(behind) if fits else body
            self.assertEqual(self.body(*body), expected, (before, inside, behind))

    def test_24_statements_as_they_have_become(self):
        """Those before count as they are now, those behind as they were."""
        idle = ("set", "y", Y)
        choice = ("if", ONE, self.puts(20), ())
        self.assertEqual(self.body(idle, idle, idle, idle, idle, choice, *self.puts(4)), self.puts(20) + self.puts(4))
        self.assertEqual(self.body(choice, *self.puts(4), idle), (choice, *self.puts(4)))
        self.assertEqual(self.body(choice, *self.puts(3), idle), self.puts(20) + self.puts(3))
        # The statements of a choice before count, too, and a choice that stays counts as one.
        small = ("if", ONE, self.puts(3), ())
        self.assertEqual(self.body(small, choice, self.PUT), self.puts(3) + self.puts(20) + (self.PUT,))
        self.assertEqual(self.body(small, choice, self.PUT, self.PUT), self.puts(3) + (choice, self.PUT, self.PUT))
        self.assertEqual(self.body(choice, small, self.PUT), self.puts(20) + self.puts(3) + (self.PUT,))
        self.assertEqual(self.body(choice, choice, small), self.puts(20) + (choice,) + self.puts(3))
        # The choice behind counts as one statement, though it would become several.
        self.assertEqual(self.body(choice, ("if", ONE, self.puts(5), ()), self.PUT),
                         self.puts(20) + (("if", ONE, self.puts(5), ()), self.PUT))

    def test_24_statements_in_inner_bodies(self):
        """A choice that stays in its body may fit when that body stands elsewhere, but is not looked at again."""
        stays = ("if", ONE, self.puts(20), ())
        inner = (stays, *self.puts(5))
        self.assertEqual(self.body(("loop", "i", 0, 1, inner)), (("loop", "i", 0, 1, inner),))
        self.assertEqual(self.body(("if", ONE, inner, ())), inner)
        # Once more, it is looked at, but there is still no room.
        self.assertEqual(self.body(*self.body(("if", ONE, inner, ()))), inner)

    def test_neighbours(self):
        two, three = ("set", "y", n(2)), ("set", "y", ("add", X, n(3)))
        self.assertEqual(self.body(two, three), (three,))
        self.assertEqual(self.body(three, two), (two,))
        self.assertEqual(self.body(two, three, two, three), (three,))
        self.assertEqual(self.body(two, ("set", "y", ("low", ("add", ("low", Y, 9), ONE), 9))),
                         (two, ("set", "y", ("low", ("add", ("low", Y, 9), ONE), 9))))
        self.assertEqual(self.body(two, self.OTHER, three), (two, self.OTHER, three))
        self.assertEqual(self.body(two, self.PUT, three), (two, self.PUT, three))
        self.assertEqual(self.body(self.PUT, self.PUT), (self.PUT, self.PUT))
        self.assertEqual(self.body(two, ("set", "z", Y)), (two, ("set", "z", Y)))

    def test_neighbours_from_the_last_pair_on(self):
        two, own, three = ("set", "y", n(2)), ("set", "y", ("low", ("add", ("low", Y, 9), ONE), 9)), ("set", "y", X)
        self.assertEqual(self.body(two, own, three), (three,))
        self.assertEqual(self.body(own, two, own), (two, own))
        self.assertEqual(self.body(two, three, own), (three, own))
        self.assertEqual(self.body(two, own), (two, own))

    def test_names_of_a_variable(self):
        """Deep in the expression, as an index, and in a pick."""
        first = ("set", "q", n(2))
        for expression in (("item", "r", ("low", ("name", "q"), 3)), ("pick", BIT, X, ("name", "q")),
                           ("bit", X, ("low", ("name", "q"), 7))):
            second = ("set", "z", expression)
            self.assertEqual(self.body(first, second), (first, second))
        second = ("set", "q", ("item", "s", ("low", ("name", "q"), 1)))
        program = program_of(first, second, params=(("s", "public", 9, 2),), results=RESULTS, others=OTHERS)
        self.assertEqual(simplify(check_program(program)), program)

    def test_neighbours_after_other_rules(self):
        two, three = ("set", "y", n(2)), ("set", "y", X)
        self.assertEqual(self.body(two, ("set", "z", ("name", "z")), three), (three,))
        self.assertEqual(self.body(two, ("if", ONE, (three,), ())), (three,))
        self.assertEqual(self.body(two, ("loop", "i", 0, 1, ()), three), (three,))
        self.assertEqual(self.body(two, ("if", P, (three,), ())), (two, ("if", P, (three,), ())))
        # The value of the second one does not name the variable any more.
        self.assertEqual(self.body(two, ("set", "y", ("mul", ZERO, ("low", Y, 9)))), (("set", "y", ZERO),))
        self.assertEqual(self.body(("loop", "i", 0, 3, (two, three))), (("loop", "i", 0, 3, (three,)),))


class ProgramsTest(SimplifyCase):
    def test_random_programs(self):
        changed = 0
        for seed in range(150):
            programs = Programs(seed)
            program = programs.program()
            rows = [programs.inputs(program) for _ in range(3)]
            simpler = simplify(program)
            self.check_802(program, simpler, rows)
            again = simplify(simpler)
            self.check_802(simpler, again, rows)
            changed += simpler != program
        self.assertGreater(changed, 100)

    def test_once_more(self):
        """It may make the program still shorter."""
        body = (("set", "y", n(2)), ("if", P, (("set", "y", Y),), ()), ("set", "y", X))
        self.assertEqual(self.body(*body), (("set", "y", X),))
        first = (("set", "y", ("low", ("name", "z"), 9)), ("set", "z", X), ("set", "z", X))
        self.assertEqual(self.body(*first), (first[0], first[1]))

    def test_made_programs(self):
        for program, rows in ((power_program(101, 9), ((7, 300), (0, 0))), (inverse_program(101), ((5,), (0,))),
                              (ladder_program(101, 2, 5), ((5, 9), (1, 31)))):
            simpler = simplify(program)
            self.check_802(program, simpler, rows)
            compile_program(simpler)

    def test_several_functions(self):
        program = check_program(parse_program(
            "fun g(secret x 9) to (secret y 9) { y = (x + 0); } "
            "fun h(secret x 99) to (secret y 99) { if 1 { y = low(x, 7); } else { } }"))
        self.assertEqual(simplify(program), parse_program(
            "fun g(secret x 9) to (secret y 9) { y = x; } fun h(secret x 99) to (secret y 99) { y = x; }"))


if __name__ == "__main__":
    unittest.main()
