"""Points 609 and 610: the loops of a code, and the bound."""

import random
import unittest

from quietsmith.annotate import annotate
from quietsmith.errors import BadCode
from quietsmith.facts import START
from quietsmith.judge import check_code, judge
from quietsmith.machine import Machine
from tests import judging
from tests.codes import WIDEST, at, state_of
from tests.helpers import refusal
from tests.judged import CLEAR, HALT, LAYOUT, RET, JudgeCase, public

ONE = ("set", 2, 1)
COUNT = ("add", 1, 1, 2)


def turning(start, address, back, most=9):
    """The seven instructions of a loop with a counter in memory; they begin at this place and jump back to another."""
    return (("load", 1, 0, address), ("below", 1, most, start + 3), ("jump", start + 7), ONE, COUNT,
            ("store", 1, 0, address), ("jump", back))


def with_part(code, place, instruction):
    return code[:place] + (instruction,) + code[place + 1:]


class RegisterTest(JudgeCase):
    """A counter in a register."""

    PLAIN = (ONE, COUNT, ("below", 1, 9, 1), HALT)
    # The way out stands at the begin, and the jump back is a `jump`.
    AHEAD = (ONE, ("below", 1, 9, 3), ("jump", 5), COUNT, ("jump", 1), HALT)
    # The jump back is a `below` of another register.
    OTHER = (ONE, ("below", 1, 9, 3), HALT, ("load", 3, 0, 4), COUNT, ("below", 3, 5, 1), HALT)

    def test_turns(self):
        self.taken(20, *self.PLAIN)
        self.taken(1 + 4 * 10 + 1, *self.AHEAD)
        self.taken(1 + 5 * 10 + 1, *self.OTHER)
        machine = Machine((LAYOUT, self.PLAIN), [0] * 6)
        self.assertEqual(machine.run(100), 20)

    def test_other_steps(self):
        """With `below` of the counter the turns are `n - 1`, whatever is added."""
        self.taken(20, ("set", 2, 3), *self.PLAIN[1:])
        self.taken(4, *self.PLAIN[:2], ("below", 1, 1, 1), HALT)
        self.taken(2 * 65535 + 2, *self.PLAIN[:2], ("below", 1, 65535, 1), HALT)
        # The sum is that of what is added and of the greatest value before: 8 and 3.
        self.taken(1 + 4 * 12 + 1, ("set", 2, 3), *self.AHEAD[1:])

    def test_either_operand(self):
        self.taken(20, *with_part(self.PLAIN, 1, ("add", 1, 2, 1)))

    def test_another_instruction(self):
        for other in (("addc", 1, 1, 2), ("sub", 1, 1, 2), ("add", 1, 1, 1), ("add", 1, 2, 2), ("add", 1, 3, 2),
                      ("add", 3, 1, 2), ("add", 3, 3, 3), ("or", 1, 1, 2), CLEAR, ("load", 1, 0, 4)):
            self.refused(2, "loop", *with_part(self.PLAIN, 1, other))

    def test_what_is_added(self):
        self.refused(2, "loop", ("set", 2, 0), *self.PLAIN[1:])
        self.refused(2, "loop", ("load", 2, 0, 4), *self.PLAIN[1:])
        self.refused(3, "loop", ("load", 2, 0, 4), ONE, CLEAR, ("below", 1, 9, 1), HALT)
        self.taken(21, ("load", 2, 0, 4), ONE, COUNT, ("below", 1, 9, 2), HALT)

        # One of several words, none of which is 0.
        self.refused(3, "loop", ("load", 2, 0, 4), ("below", 2, 1, 4), COUNT, ("below", 1, 9, 2), HALT)
        # The sum of two other registers, one of which is 1.
        self.refused(2, "loop", *with_part(self.PLAIN, 1, ("add", 1, 2, 3)))
        self.refused(2, "loop", *with_part(self.PLAIN, 1, ("add", 1, 3, 2)))

    def test_the_sum(self):
        self.refused(2, "loop", ONE, COUNT, ("jump", 1))
        self.taken(2 * 65534 + 2, ("set", 2, 2), COUNT, ("below", 1, 65534, 1), HALT)
        self.refused(2, "loop", ("set", 2, 2), COUNT, ("below", 1, 65535, 1), HALT)
        self.refused(2, "loop", ONE, COUNT, ("below", 3, 5, 1), HALT)

    def test_the_jump_must_stand_behind(self):
        self.refused(3, "loop", ONE, COUNT, CLEAR, ("below", 1, 9, 1), HALT)
        # The counting instruction lies before the loop.
        self.refused(2, "loop", ONE, COUNT, ("below", 1, 9, 2), HALT)
        self.refused(0, "loop", ("jump", 0))
        self.refused(1, "loop", ONE, ("below", 1, 9, 1), HALT)

    def test_a_note_at_the_jump(self):
        self.refused(3, "loop", ("below", 3, 0, 3), ONE, COUNT, ("below", 1, 9, 2), HALT)
        routines, notes = annotate((LAYOUT, self.PLAIN))
        noted = ((2, state_of({1: public(0, 9), 2: public(1, 1)})),)
        self.denied(2, "loop", self.PLAIN, routines, notes + noted)
        self.granted(20, self.PLAIN, routines, notes)

    def test_the_register_gets_another_value(self):
        for other in (("set", 1, 0), ("move", 1, 3), ("load", 1, 0, 4), ("carry", 1), ("down", 1, 1, 1), ("add", 1, 1, 2)):
            self.refused(3, "loop", ONE, other, COUNT, ("below", 1, 9, 1), HALT)
        # It may get one before and behind the loop, and other registers in it.
        self.taken(4 + 3 * 9, ("set", 1, 0), ONE, ("set", 3, 4), COUNT, ("below", 1, 9, 2), ("set", 1, 7), HALT)

    def test_places_without_a_state(self):
        """What is not reached counts neither as a value nor as a call, but all reached places do."""
        loop = (ONE, ("below", 1, 9, 4), HALT, ("set", 1, 0), COUNT, ("jump", 1))
        self.taken(1 + 4 * 10, *loop)
        called = loop[:3] + (("call", 6),) + loop[4:] + (RET,)
        self.taken(1 + 4 * 10, *called)

    def test_calls(self):
        code = (ONE, ("call", 5), COUNT, ("below", 1, 9, 1), HALT, RET)
        self.refused(3, "loop", *code)
        code = (("call", 4), ("add", 1, 1, 2), ("below", 1, 9, 1), HALT, ("set", 2, 1), RET)
        self.taken(1 + 2 + 18 + 1, *code)

    def test_calls_behind_inner_loops(self):
        inner = ("set", 3, 0), ("add", 3, 3, 2), ("below", 3, 4, 2)
        code = (ONE, *inner, CLEAR, COUNT, ("below", 1, 9, 1), HALT, RET)
        self.taken(1 + 9 * (1 + 2 * 4 + 3) + 1, *code)
        self.refused(6, "loop", *with_part(code, 4, ("call", 8)))

    def test_each_register(self):
        for reg in (0, 7, 15):
            step = 1 if reg == 15 else reg + 1
            plain = (("set", step, 1), ("add", reg, reg, step), ("below", reg, 9, 1), HALT)
            self.taken(20, *plain)
            self.refused(3, "loop", plain[0], ("set", reg, 0), plain[1], ("below", reg, 9, 1), HALT)

    def test_a_wider_certificate(self):
        """The bound is that of the certificate, not the least one."""
        routines, notes = annotate((LAYOUT, self.AHEAD))
        states = dict(notes)
        states[3] = at(1, public(0, 100), states[3])
        for place in (1, 5):
            states[place] = at(1, public(0, 200), states[place])
        self.granted(1 + 4 * (101 + 1) + 1, self.AHEAD, routines, tuple(sorted(states.items())))


class MemoryTest(JudgeCase):
    """A counter in memory: the address 5, in a region up to 9."""

    LOOP = (("load", 1, 0, 5), ("below", 1, 9, 4), HALT, CLEAR, ONE, COUNT, ("store", 1, 0, 5), ("jump", 0))

    def test_turns(self):
        self.taken(70, *self.LOOP)
        layout = (LAYOUT[0], (4, 2, "public", 30))
        self.taken(7 * 31, *self.LOOP, layout=layout)
        below = self.LOOP[:7] + (("below", 1, 4, 0), HALT)
        self.taken(71, *below)

    def test_the_word_goes_down_outside(self):
        self.taken(72, ("set", 3, 0), ("store", 3, 0, 5), ("load", 1, 0, 5), ("below", 1, 9, 5), HALT, ONE, COUNT,
                   ("store", 1, 0, 5), ("jump", 2))

    def test_other_plus(self):
        self.taken(70, *with_part(with_part(self.LOOP, 4, ("set", 2, 3)), 1, ("below", 1, 7, 4)))
        self.refused(7, "loop", *with_part(self.LOOP, 5, CLEAR))
        self.refused(7, "loop", *with_part(self.LOOP, 4, ("set", 2, 0)))
        self.refused(7, "loop", *with_part(self.LOOP, 5, ("add", 1, 2, 1)))

    def test_plus_that_is_not_known(self):
        layout = ((0, 4, "public", 1), (4, 2, "public", 9))
        code = with_part(self.LOOP, 4, ("load", 2, 0, 0))
        self.refused(7, "loop", *code, layout=layout)

    def test_another_cell(self):
        self.refused(7, "loop", *with_part(self.LOOP, 6, ("store", 1, 0, 4)))
        self.refused(7, "loop", *with_part(self.LOOP, 0, ("load", 1, 0, 4)))
        self.taken(70, *with_part(with_part(self.LOOP, 6, ("store", 1, 0, 4)), 0, ("load", 1, 0, 4)))

    def test_addresses_that_are_not_exact(self):
        layout = ((0, 1, "public", 1), (4, 2, "public", 9))
        code = (("load", 3, 0, 0), ("load", 1, 3, 4), ("below", 1, 9, 4), HALT, ONE, COUNT, ("store", 1, 3, 4), ("jump", 1))
        self.refused(7, "loop", *code, layout=layout)
        self.taken(1 + 70, ("set", 3, 1), *code[1:], layout=layout)

    def test_one_of_several_addresses(self):
        """The register has the word at the first address, but the store need not go there."""
        layout = ((0, 1, "public", 1), (4, 2, "public", 9))
        code = (("load", 3, 0, 0), ("load", 1, 0, 4), ("below", 1, 9, 4), HALT, ONE, COUNT, ("store", 1, 3, 4), ("jump", 1))
        self.refused(7, "loop", *code, layout=layout)
        self.taken(71, ("set", 3, 0), *code[1:], layout=layout)

    def test_stores_at_other_addresses(self):
        store = ("store", 3, 0, 4)
        code = (("set", 3, 4), ("load", 1, 0, 5), ("below", 1, 9, 4), HALT, store, store, ONE, COUNT, store, store,
                ("store", 1, 0, 5), ("jump", 1))
        self.taken(1 + 10 * 11, *code)
        self.refused(11, "loop", *with_part(code, 4, ("store", 3, 0, 5)))

    def test_another_store_in_the_loop(self):
        self.refused(8, "loop", ("store", 0, 0, 5), *[one[:-1] + (one[-1] + 1,) if one[0] in ("below", "jump") else one
                                                    for one in self.LOOP[:7]], ("jump", 0))
        code = (("set", 3, 4), ("load", 1, 0, 5), ("below", 1, 9, 4), HALT, ("store", 3, 0, 4), ONE, COUNT,
                ("store", 1, 0, 5), ("jump", 1))
        self.taken(1 + 80, *code)
        self.refused(8, "loop", *with_part(code, 4, ("store", 3, 0, 5)))

    def test_a_store_that_can_have_the_address(self):
        layout = ((0, 1, "public", 2), (1, 1, "public", 1), (4, 3, "public", 9))
        for first, d, right in ((0, 4, False), (1, 4, False), (1, 5, False)):
            self.refused(8, "loop", ("load", 3, 0, first), ("load", 1, 0, 5), ("below", 1, 9, 4), HALT,
                         ("store", 0, 3, d), ONE, COUNT, ("store", 1, 0, 5), ("jump", 1), layout=layout)
        layout = ((1, 1, "public", 1), (4, 4, "public", 9))
        self.taken(1 + 80, ("load", 3, 0, 1), ("load", 1, 0, 5), ("below", 1, 9, 4), HALT,
                   ("store", 0, 3, 6), ONE, COUNT, ("store", 1, 0, 5), ("jump", 1), layout=layout)

    def test_places_without_a_state(self):
        self.taken(70, *with_part(self.LOOP, 3, ("store", 0, 0, 5)))
        self.taken(70, *with_part(self.LOOP, 3, ("call", 8)), ("store", 0, 0, 5), RET)

    def test_a_note_at_the_jump(self):
        self.refused(7, "loop", *with_part(self.LOOP, 2, ("jump", 7)))

    def test_stores_in_routines(self):
        calling = (("call", 10), ("load", 1, 0, 5), ("below", 1, 9, 5), ("jump", 9), CLEAR, ONE, COUNT,
                     ("store", 1, 0, 5), ("jump", 0), HALT)
        # Eight places in the loop with a state, and two steps more for the routine.
        self.taken(10 * (8 + 2) + 1, *calling, ("store", 0, 0, 4), RET)
        self.refused(8, "loop", *calling, ("store", 0, 0, 5), RET)
        # What is not reached in the routine does not count.
        self.taken(10 * (8 + 1) + 1, *calling, RET, ("store", 0, 0, 5))
        # A routine that is called by the routine, over several calls.
        chain = (("call", 12), RET, ("call", 14), RET)
        self.taken(10 * (8 + 6) + 1, *calling, *chain, ("store", 0, 0, 4), RET)
        self.refused(8, "loop", *calling, *chain, ("store", 0, 0, 5), RET)
        # A store that can have one of several addresses.
        layout = ((0, 1, "public", 1), (4, 3, "public", 9))
        for d, right in ((4, False), (5, False)):
            self.refused(8, "loop", *calling, ("load", 3, 0, 0), ("store", 0, 3, d), RET, layout=layout)
        self.taken(10 * (8 + 3) + 1, *calling, ("load", 3, 0, 0), ("store", 0, 3, 6), RET,
                   layout=((0, 1, "public", 1), (4, 4, "public", 9)))

    def test_calls_behind_other_loops(self):
        first = (("set", 3, 0), ONE, ("add", 3, 3, 2), ("below", 3, 4, 2))
        code = (*first, ("call", 14), ("load", 1, 0, 5), ("below", 1, 9, 9), ("jump", 13), CLEAR, ONE, COUNT,
                ("store", 1, 0, 5), ("jump", 4), HALT)
        self.taken(2 + 8 + 10 * (8 + 2) + 1, *code, ("store", 0, 0, 4), RET)
        self.refused(12, "loop", *code, ("store", 0, 0, 5), RET)

    def test_routines_that_are_called_elsewhere(self):
        code = (("call", 10), ("load", 1, 0, 5), ("below", 1, 9, 5), ("jump", 9), CLEAR, ONE, COUNT,
                ("store", 1, 0, 5), ("jump", 1), HALT, ("store", 0, 0, 5), RET)
        self.taken(1 + 2 + 10 * 7 + 1, *code)
        # A call in the loop at a place that is not reached.
        code = (CLEAR, ("load", 1, 0, 5), ("below", 1, 9, 5), ("jump", 9), ("call", 10), ONE, COUNT,
                ("store", 1, 0, 5), ("jump", 1), HALT, ("store", 0, 0, 5), RET)
        self.taken(1 + 10 * 7 + 1, *code)

    def test_a_routine_that_does_not_come_back(self):
        """It is called in the loop all the same."""
        code = (("load", 3, 0, 4), ("below", 3, 5, 9), ("load", 1, 0, 5), ("below", 1, 9, 5), HALT, ONE, COUNT,
                ("store", 1, 0, 5), ("jump", 0), HALT)
        self.taken(10 * 9 + 1, *code)
        inside = (("load", 3, 0, 4), ("below", 3, 5, 3), ("call", 10), ("load", 1, 0, 5), ("below", 1, 9, 6), HALT,
                  ONE, COUNT, ("store", 1, 0, 5), ("jump", 0))
        self.taken(10 * (10 + 2), *inside, ("store", 0, 0, 4), HALT)
        self.refused(9, "loop", *inside, ("store", 0, 0, 5), HALT)


class SeveralLoopsTest(JudgeCase):
    INNER = (("set", 3, 0), ONE, ("add", 3, 3, 2), ("below", 3, 4, 2))

    def test_one_behind_the_other(self):
        self.taken(2 * (2 + 2 * 4) + 1, *self.INNER, ("set", 3, 0), ONE, ("add", 3, 3, 2), ("below", 3, 4, 6), HALT)

    def test_loops_within_loops(self):
        code = (*self.INNER, COUNT, ("below", 1, 9, 0), HALT)
        self.taken(9 * (2 + 2 * 4 + 2) + 1, *code)
        code = (*self.INNER, ("set", 4, 0), ("add", 4, 4, 2), ("below", 4, 6, 5), COUNT, ("below", 1, 9, 0), HALT)
        self.taken(9 * (2 + 2 * 4 + 1 + 2 * 6 + 2) + 1, *code)

    def test_three_deep(self):
        code = (("set", 4, 0), *[one[:-1] + (3,) if one[0] == "below" else one for one in self.INNER],
                ("add", 4, 4, 2), ("below", 4, 3, 1), COUNT, ("below", 1, 2, 0), HALT)
        self.taken(2 * (1 + 3 * (2 + 4 * 2 + 2) + 2) + 1, *code)

    def test_one_begin_for_two(self):
        """Both loops begin at one place: the first one lies in the second one."""
        code = (ONE, ("load", 1, 0, 4), ("below", 1, 9, 4), HALT, COUNT, ("store", 1, 0, 4), ("below", 1, 5, 1),
                ("load", 1, 0, 5), ("below", 1, 9, 10), HALT, COUNT, ("store", 1, 0, 5), ("jump", 1))
        self.taken(1 + 10 * (10 * 6 + 6), *code)

    def test_loops_that_cross(self):
        layout = ((0, 4, "public", 9),)
        first = (CLEAR, CLEAR, *turning(2, 0, 1))
        for place, bound in ((0, 10 * (1 + 10 * 8 + 7) + 1), (1, 1 + 10 * (10 * 8 + 7) + 1), (2, None),
                             (9, 1 + 10 * 8 + 10 * 7 + 1)):
            code = (*first, *turning(9, 1, place), HALT)
            if bound is None:
                self.refused(15, "loop", *code, layout=layout)
            else:
                self.taken(bound, *code, layout=layout)
        # The place of the first jump back has a note if the second one goes there.
        self.refused(8, "loop", *first, *turning(9, 1, 8), HALT, layout=layout)

    def test_crossing_behind_other_loops(self):
        """The crossed loop lies within another one, or behind inner ones."""
        layout = ((0, 4, "public", 9),)
        inner, outer = (CLEAR, CLEAR, *turning(2, 0, 1)), turning(9, 1, 0)
        for place, bound in ((0, 10 * (7 + 10 * (1 + 80 + 7)) + 1), (1, None), (2, None), (9, None),
                             (16, 10 * 7 + 10 * (1 + 80 + 7) + 1)):
            code = (*inner, *outer, *turning(16, 2, place), HALT)
            if bound is None:
                self.refused(22, "loop", *code, layout=layout)
            else:
                self.taken(bound, *code, layout=layout)
        # The second loop lies in the third one, and the first one does not.
        outer = turning(9, 1, 9)
        for place, bound in ((0, 10 * (1 + 80 + 70 + 7) + 1), (1, 1 + 10 * (80 + 70 + 7) + 1), (2, None),
                             (9, 1 + 80 + 10 * (70 + 7) + 1)):
            code = (*inner, *outer, *turning(16, 2, place), HALT)
            if bound is None:
                self.refused(22, "loop", *code, layout=layout)
            else:
                self.taken(bound, *code, layout=layout)

    def test_the_order_of_the_loops(self):
        self.refused(1, "loop", CLEAR, ("below", 0, 1, 0), ("jump", 2))
        self.refused(4, "loop", ONE, COUNT, ("below", 1, 9, 1), CLEAR, ("jump", 3))
        layout = ((0, 4, "public", 9),)
        # The inner loop ends first.
        self.refused(2, "loop", CLEAR, CLEAR, ("jump", 1), layout=layout)

    def test_a_below_that_cannot_jump_is_no_loop(self):
        self.taken(3, CLEAR, ("below", 0, 0, 0), HALT)
        self.taken(4, ("set", 1, 5), CLEAR, ("below", 1, 5, 0), HALT)
        self.taken(1, HALT, ("jump", 0))

    def test_loops_in_routines(self):
        code = (ONE, ("call", 6), COUNT, ("call", 6), ("call", 11), HALT,
                ("set", 3, 0), ("add", 3, 3, 2), ("below", 3, 4, 7), ("clear",), RET,
                ("call", 6), ("set", 4, 0), ("add", 4, 4, 2), ("below", 4, 3, 13), RET)
        inner = 1 + 2 * 4 + 2
        outer = 1 + inner + 1 + 2 * 3 + 1
        self.taken(6 + 2 * inner + outer, *code)


class BoundTest(JudgeCase):
    def test_calls_within_loops(self):
        layout = ((0, 1, "public", 9), (1, 1, "public", 20), (2, 1, "secret", 65535))
        code = (("call", 10), ("load", 1, 0, 0), ("below", 1, 9, 5), ("jump", 9), CLEAR, ONE, COUNT, ("store", 1, 0, 0),
                ("jump", 0), HALT)
        routine = (("load", 1, 0, 1), ("below", 1, 20, 13), RET, ONE, COUNT, ("store", 1, 0, 1), ("jump", 10))
        self.taken(10 * (8 + 21 * 7) + 1, *code, *routine, layout=layout)

    def test_only_what_the_first_routine_calls(self):
        """A routine that is not called adds nothing, but its rules are looked at."""
        self.taken(1, HALT, ("call", 2), RET)
        code = (HALT, CLEAR, RET)
        self.granted(1, code, ((0, 1, None), (1, 0, START)), ((0, START), (1, START)))
        self.denied(2, "note", code, ((0, 1, None), (1, 0, None)), ((0, START), (1, START)))

    def test_all_places_with_a_state(self):
        """Both ways of a choice count."""
        self.taken(6, ("load", 1, 0, 4), ("below", 1, 5, 4), CLEAR, ("jump", 5), CLEAR, HALT)

    def test_great_bounds(self):
        """Loops within one another, over 16 bits each."""
        layout = ((0, 40, "public", 65535),)
        code = ()
        expected = 0
        for cell in range(40):
            code += turning(len(code), cell, 0, 65535)
            expected = (expected + 7) * 65536
        self.assertEqual(judge((layout, (*code, HALT))), expected + 1)

    def test_against_another_count(self):
        """Random nests of loops with calls: the sum of the products of point 610, place by place."""
        for seed in range(40):
            code_file = Nests(random.Random(seed)).code_file()
            self.assertEqual(judge(code_file), judging.check_code(code_file, annotate(code_file)))
            machine = Machine(code_file, [0] * 64)
            machine.run(100000)
            self.assertLessEqual(len(machine.shown()), judge(code_file))


class Nests:
    """Makes codes with loops within loops, and calls in them."""

    def __init__(self, source):
        self.source = source
        self.code = []
        self.used = 0
        self.calls = []

    def code_file(self):
        self.body(3)
        self.code.append(HALT)
        while self.calls:
            places, self.calls = self.calls, []
            first = len(self.code)
            for place in places:
                self.code[place] = ("call", first)
            self.body(len(places) > 3)
            self.code.append(RET)
        return (((0, 64, "public", 3),), tuple(self.code))

    def body(self, levels):
        for _ in range(self.source.randint(1, 3)):
            kind = self.source.choice(("loop", "loop", "call", "clear"))
            if kind == "loop" and levels > 0 and self.used < 60:
                self.loop(levels)
            elif kind == "call":
                self.calls.append(len(self.code))
                self.code.append(CLEAR)
            else:
                self.code.append(CLEAR)

    def loop(self, levels):
        cell = self.used
        self.used += 1
        start = len(self.code)
        self.body(levels - 1)
        self.code += turning(len(self.code), cell, start, 3)


class LongCodesTest(JudgeCase):
    LAYOUT = tuple((16 * at_place, 16, ("public", "secret")[at_place % 2], at_place) for at_place in range(256))

    def test_many_loops(self):
        code = []
        for _ in range(4999):
            code += [("set", 1, 0), ONE, COUNT, ("below", 1, 9, len(code) + 2)]
        code += [("load", 1, 0, 0), ("store", 1, 0, 33), CLEAR, HALT]
        self.assertEqual(len(code), 20000)
        self.assertEqual(judge((self.LAYOUT, tuple(code))), 4999 * 20 + 4)

    def test_many_loops_within_one_another(self):
        """3000 counters in memory, with one begin."""
        layout = ((0, 4096, "public", 1),)
        code = []
        expected = 0
        for cell in range(2857):
            code += turning(len(code), cell, 0, 1)
            expected = (expected + 7) * 2
        self.assertEqual(judge((layout, (*code, HALT))), expected + 1)

    def test_many_regions(self):
        code = []
        for place in range(19998):
            code.append((("load", "store")[place % 2], place % 2, 0, place * 37 % 4096))
        code = [("load", 1, 0, one[3]) if one[0] == "load" else ("store", 0, 0, one[3]) for one in code]
        code += [("store", 0, 0, 4095), HALT]
        self.assertEqual(judge((self.LAYOUT, tuple(code))), 20000)

    def test_many_routines(self):
        code = [("call", 3 * 3333 + 1 + 3 * at_place) for at_place in range(3333)] + [HALT]
        code += [CLEAR] * (3 * 3333 + 1 - len(code))
        for _ in range(3333):
            code += [("load", 1, 0, 17), ("store", 0, 0, 200), RET]
        self.assertEqual(judge((self.LAYOUT, tuple(code))), 4 * 3333 + 1)

    def test_certificates_with_a_note_at_each_place(self):
        code = (CLEAR,) * 19999 + (HALT,)
        notes = tuple((place, WIDEST) for place in range(20000))
        self.assertEqual(check_code(((), code), (((0, 0, None),), notes)), 20000)
        error = refusal(BadCode, check_code, ((), code), (((0, 0, None),), notes[:-1] + ((19999, START),)))
        self.assertEqual((error.index, error.reason), (19998, "note"))


if __name__ == "__main__":
    unittest.main()
