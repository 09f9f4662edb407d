"""Points 605 to 611 and 614: what the judge takes, and what it refuses."""

import unittest

from quietsmith.annotate import annotate
from quietsmith.errors import BadCode, BadRun
from quietsmith.facts import START, is_state
from quietsmith.judge import check_code, judge, states_of
from quietsmith.machine import Machine
from tests import judging
from tests.codes import SECRET, WIDEST, Codes, at, state_of
from tests.helpers import refusal
from tests.judged import CLEAR, HALT, LAYOUT, MAIN, RET, JudgeCase, public


class FormTest(JudgeCase):
    def test_form(self):
        for certificate in (None, (), ((MAIN,),), ((), ((0, START),)), (((1, 0, None),), ((0, START),)),
                            ((MAIN,), ((1, START),)), [(MAIN,), ((0, START),)], True, "no", 0):
            for action in (check_code, states_of):
                self.refused_by(action, (0, "certificate"), (LAYOUT, (HALT,)), certificate)

    def test_the_first_note(self):
        self.granted(1, (HALT,), (MAIN,), ((0, START),))
        self.granted(1, (HALT,), (MAIN,), ((0, WIDEST),))
        self.denied(0, "note", (HALT,), (MAIN,), ())
        self.denied(0, "note", (CLEAR, HALT), (MAIN,), ((1, START),))
        self.denied(0, "note", (HALT,), (MAIN,), ((0, at(3, public(1, 1))),))
        self.denied(0, "note", (HALT,), (MAIN,), ((0, at(3, public(0, 0, 4, 0))),))
        # The form comes first, then the note of place 0, then the places.
        wrong = (("load", 1, 0, 9),)
        self.denied(0, "note", wrong, (MAIN,), ())
        self.denied(0, "address", wrong, (MAIN,), ((0, START),))


class PlaceTest(JudgeCase):
    def test_secret_registers(self):
        secret = ("load", 1, 0, 0)
        self.refused(1, "flow", secret, ("below", 1, 5, 2), HALT)
        self.refused(1, "flow", secret, ("div", 2, 1, 3), HALT)
        self.refused(1, "flow", secret, ("div", 2, 3, 1), HALT)
        self.refused(1, "flow", secret, ("load", 2, 1, 0), HALT)
        self.refused(1, "flow", secret, ("store", 2, 1, 0), HALT)
        self.refused(1, "flow", secret, ("div", 1, 1, 1), HALT)
        self.taken(3, secret, ("mul", 2, 1, 1), HALT)
        self.taken(3, secret, ("downby", 2, 1, 1), HALT)
        self.taken(4, secret, ("store", 1, 0, 1), ("div", 1, 2, 3), HALT)
        self.taken(3, secret, ("below", 2, 5, 2), HALT)

    def test_addresses(self):
        for name in ("load", "store"):
            self.refused(0, "address", (name, 1, 0, 6), HALT)
            self.refused(1, "address", ("set", 2, 3), (name, 1, 2, 3), HALT)
            self.refused(1, "address", ("set", 2, 65535), (name, 1, 2, 4095), HALT)
            self.refused(1, "address", ("load", 2, 0, 4), (name, 1, 2, 0), HALT)
            self.refused(0, "address", (name, 1, 0, 0), HALT, layout=())
            self.refused(0, "address", (name, 1, 0, 2), HALT, layout=((0, 2, "public", 9), (3, 2, "public", 9)))
        self.taken(2, ("load", 1, 0, 5), HALT)
        self.taken(3, ("load", 2, 0, 4), ("load", 1, 2, 8), HALT, layout=((4, 1, "public", 3), (8, 4, "secret", 9)))

    def test_several_regions(self):
        """All addresses must be in one region, though two of them lie side by side."""
        layout = ((0, 1, "public", 1), (1, 1, "secret", 9), (2, 1, "secret", 9), (3, 2, "secret", 9))
        self.refused(1, "address", ("load", 2, 0, 0), ("load", 1, 2, 1), HALT, layout=layout)
        self.taken(3, ("load", 2, 0, 0), ("load", 1, 2, 3), HALT, layout=layout)

    def test_stores(self):
        self.refused(1, "flow", ("load", 1, 0, 0), ("store", 1, 0, 4), HALT)
        self.taken(3, ("load", 1, 0, 0), ("store", 1, 0, 3), HALT)
        self.taken(3, ("load", 1, 0, 4), ("store", 1, 0, 3), HALT)
        # What a register had before a load does not matter.
        self.taken(3, ("load", 1, 0, 0), ("load", 1, 0, 4), HALT)
        self.refused(1, "range", ("set", 1, 10), ("store", 1, 0, 4), HALT)
        self.taken(3, ("set", 1, 9), ("store", 1, 0, 4), HALT)
        self.refused(2, "range", ("load", 1, 0, 4), ("add", 1, 1, 1), ("store", 1, 0, 5), HALT)
        self.refused(1, "range", ("load", 1, 0, 0), ("store", 1, 0, 2), HALT, layout=(
            (0, 2, "secret", 10), (2, 2, "secret", 9)))

    def test_the_order_at_one_place(self):
        layout = ((0, 1, "secret", 65535), (1, 1, "public", 9))
        secret = ("load", 1, 0, 0)
        # A secret address comes before an address that is not safe, this before what is stored, and flow before range.
        self.refused(1, "flow", secret, ("store", 1, 1, 9), HALT, layout=layout)
        self.refused(1, "address", secret, ("store", 1, 0, 9), HALT, layout=layout)
        self.refused(1, "flow", secret, ("store", 1, 0, 1), HALT, layout=layout)
        # What is stored comes before the next place, and the register of `below` before its places.
        self.refused(1, "range", ("set", 1, 10), ("store", 1, 0, 1), layout=layout)
        self.refused(1, "flow", secret, ("below", 1, 5, 9), layout=layout)
        self.refused(1, "flow", secret, ("div", 2, 1, 1), layout=layout)

    def test_the_order_of_places(self):
        self.refused(0, "place", ("jump", 9), ("load", 1, 0, 9))
        self.refused(1, "address", CLEAR, ("load", 1, 0, 9), ("jump", 9))
        self.refused(1, "range", ("set", 1, 10), ("store", 1, 0, 4), ("load", 1, 0, 9), ("jump", 3))
        # A loop is looked at only when all places are right.
        self.refused(2, "place", CLEAR, ("below", 0, 0, 0), CLEAR)
        self.refused(3, "address", ("load", 1, 0, 4), ("below", 1, 5, 0), CLEAR, ("load", 1, 0, 9), HALT)

    def test_places_beyond_the_code(self):
        self.refused(0, "place", ("jump", 1))
        self.refused(0, "place", ("jump", 19999))
        self.refused(0, "place", CLEAR)
        self.refused(0, "place", ("call", 2), HALT)
        self.refused(0, "place", ("below", 0, 1, 2), HALT)
        self.refused(1, "place", ("load", 1, 0, 4), ("below", 1, 9, 1))
        # A `below` that cannot jump, or cannot go on.
        self.taken(2, ("below", 0, 0, 9), HALT)
        self.refused(1, "loop", CLEAR, ("below", 0, 1, 0))
        self.refused(0, "place", ("below", 0, 0, 0))

    def test_the_named_place_comes_before_the_next_one(self):
        load = ("load", 1, 0, 4)
        wide = at(1, public(0, 9))
        self.denied(1, "note", (load, ("below", 1, 5, 0)), (MAIN,), ((0, START),))
        self.denied(1, "place", (load, ("below", 1, 5, 0)), (MAIN,), ((0, wide),))
        code = (load, ("below", 1, 5, 3), HALT, HALT)
        self.denied(1, "routine", code, (MAIN, (3, 0, None)), ((0, START), (2, START), (3, wide)))
        self.denied(1, "note", code, (MAIN,), ((0, START), (2, START), (3, wide)))
        self.denied(1, "place", (load, ("below", 1, 5, 9), HALT), (MAIN, (2, 0, None)), ((0, START),))
        # The call of a place without a note, and behind it the end of the code.
        self.denied(1, "note", (HALT, ("call", 2), RET), (MAIN, (2, 0, START)), ((0, START), (1, START)))
        self.denied(1, "routine", (HALT, ("call", 2), RET), (MAIN, (2, 0, START)), ((0, START), (1, START), (2, START)))

    def test_routines(self):
        self.refused(0, "routine", ("jump", 3), ("call", 3), HALT, RET)
        self.refused(1, "routine", ("call", 2), CLEAR, RET)
        self.refused(1, "routine", ("load", 1, 0, 4), ("below", 1, 5, 4), ("call", 4), HALT, RET)
        notes = ((0, START), (2, START))
        self.granted(3, (("call", 2), HALT, RET), (MAIN, (2, 0, START)), notes)
        # The `p` of `call` must be the first place of a routine.
        self.denied(0, "routine", (("call", 2), HALT, RET), (MAIN,), notes)
        self.denied(0, "routine", (("call", 2), HALT, RET), (MAIN, (1, 0, START)), notes)
        self.denied(0, "routine", (("call", 2), HALT, RET), (MAIN, (1, 0, START)), ((0, START),))
        # All other ways stay in the routine, also to the first place of another one.
        self.denied(0, "routine", (CLEAR, HALT), (MAIN, (1, 0, None)), ((0, START), (1, START)))
        self.denied(0, "routine", (("jump", 1), HALT), (MAIN, (1, 0, None)), ((0, START), (1, START)))
        self.denied(0, "routine", (("below", 0, 1, 1), HALT), (MAIN, (1, 0, None)), ((0, START), (1, START)))
        self.denied(0, "routine", (("below", 0, 0, 1), HALT), (MAIN, (1, 0, None)), ((0, START), (1, START)))

    def test_a_call_of_the_next_place(self):
        """Behind the call, the next place lies in the routine that was called."""
        notes = ((0, START), (1, START))
        self.denied(0, "routine", (("call", 1), RET), (MAIN, (1, 0, START)), notes)
        self.denied(0, "note", (("call", 1), HALT), (MAIN, (1, 0, None)), ((0, START),))
        self.granted(2, (("call", 1), HALT), (MAIN, (1, 0, None)), notes)

    def test_levels(self):
        code = (("call", 2), HALT, RET)
        notes = ((0, START), (2, START))
        for own, other, right in ((1, 0, True), (16, 15, True), (9, 3, True), (0, 0, False), (3, 3, False),
                                  (16, 16, False), (3, 4, False), (0, 16, False)):
            routines = ((0, own, None), (2, other, START))
            if right:
                self.granted(3, code, routines, notes)
            else:
                self.denied(0, "level", code, routines, notes)
        self.denied(0, "level", (("call", 0), HALT), (MAIN,), ((0, START),))
        # The level comes before the note.
        self.denied(0, "level", code, ((0, 3, None), (2, 3, START)), ((0, START),))
        self.denied(0, "note", code, ((0, 3, None), (2, 2, START)), ((0, START),))

    def test_circles_and_long_chains(self):
        self.refused(0, "level", ("call", 2), HALT, ("call", 0), RET)
        for length, right in ((16, True), (17, False)):
            code = [("call", 2), HALT]
            for _ in range(length - 1):
                code += [("call", len(code) + 2), RET]
            code += [RET]
            if right:
                self.taken(len(code), *code)
                machine = Machine(((), tuple(code)), [])
                self.assertEqual(machine.run(1000), len(code))
            else:
                self.refused(0, "level", *code)
                self.assertEqual(refusal(BadRun, Machine(((), tuple(code)), []).run, 1000).reason, "depth")

    def test_notes(self):
        code = (("jump", 2), HALT, HALT)
        self.denied(0, "note", code, (MAIN,), ((0, START),))
        self.granted(2, code, (MAIN,), ((0, START), (2, START)))
        self.granted(2, code, (MAIN,), ((0, START), (2, WIDEST)))
        self.denied(0, "note", code, (MAIN,), ((0, WIDEST), (2, START)))
        self.denied(0, "note", code, (MAIN,), ((0, START), (2, at(1, public(1, 2)))))
        for name in ("below", "call"):
            instruction = (name, 0, 1, 2) if name == "below" else (name, 2)
            routines = (MAIN,) if name == "below" else (MAIN, (2, 0, None))
            self.denied(0, "note", (instruction, HALT, HALT), routines, ((0, START),))
            self.denied(0, "note", (instruction, HALT, HALT), routines, ((0, START), (2, at(1, public(1, 2)))))
            self.granted(2, (instruction, HALT, HALT), routines, ((0, START), (2, START)))
        # The next place needs no note, but if it has one, the state must fit it.
        code = (("set", 1, 5), HALT)
        self.granted(2, code, (MAIN,), ((0, START),))
        self.granted(2, code, (MAIN,), ((0, START), (1, at(1, public(4, 5)))))
        self.denied(0, "note", code, (MAIN,), ((0, START), (1, at(1, public(6, 7)))))
        self.denied(0, "note", (("below", 0, 0, 9), HALT), (MAIN,), ((0, START), (1, at(1, public(6, 7)))))
        self.denied(0, "note", (("jump", 1), HALT), (MAIN,), ((0, START),))

    def test_exits(self):
        code = (("set", 1, 5), RET)
        self.granted(2, code, ((0, 0, at(1, public(5, 5))),), ((0, START),))
        self.granted(2, code, ((0, 0, WIDEST),), ((0, START),))
        self.denied(1, "note", code, ((0, 0, None),), ((0, START),))
        self.denied(1, "note", code, ((0, 0, START),), ((0, START),))
        # A routine without an exit never comes back: what stands behind the call is not looked at.
        code = (("call", 2), ("jump", 99), HALT)
        self.granted(2, code, (MAIN, (2, 0, None)), ((0, START), (2, START)))
        self.denied(1, "place", code, (MAIN, (2, 0, START)), ((0, START), (2, START)))
        code = (("call", 2), HALT, RET)
        self.denied(2, "note", code, (MAIN, (2, 0, None)), ((0, START), (2, START)))
        self.denied(0, "note", code, (MAIN, (2, 0, WIDEST)), ((0, START), (1, START), (2, START)))
        self.granted(3, code, (MAIN, (2, 0, WIDEST)), ((0, START), (1, WIDEST), (2, START)))

    def test_the_exit_is_the_state_behind_a_call(self):
        code = (("call", 3), ("store", 1, 0, 4), HALT, ("set", 1, 9), RET)
        notes = ((0, START), (3, START))
        nine = at(1, public(9, 9))
        self.granted(5, code, (MAIN, (3, 0, nine)), notes)
        self.denied(1, "range", code, (MAIN, (3, 0, at(1, public(9, 10)))), notes)
        self.denied(1, "flow", code, (MAIN, (3, 0, at(1, ("secret", 9, 9, -1, 0)))), notes)


class StatesTest(JudgeCase):
    def states(self, code, notes, routines=(MAIN,), layout=LAYOUT):
        return states_of((layout, tuple(code)), (tuple(routines), tuple(notes)))

    def test_from_place_to_place(self):
        code = (("set", 1, 5), ("load", 2, 0, 4), ("jump", 4), ("load", 1, 0, 99), HALT, HALT)
        five = at(1, public(5, 5))
        loaded = at(2, public(0, 9, 4, 0), five)
        states = self.states(code, ((0, START), (4, at(1, public(0, 9), loaded))))
        self.assertEqual(states, [START, five, loaded, None, at(1, public(0, 9), loaded), None])
        self.assertIs(type(states), list)

    def test_a_note_is_the_state(self):
        code = (("set", 1, 5), ("set", 2, 6), HALT)
        wide = at(1, public(0, 65535))
        self.assertEqual(self.states(code, ((0, START), (1, wide))), [START, wide, at(2, public(6, 6), wide)])

    def test_notes_that_nothing_reaches(self):
        """A place with a note has a state, so it is looked at."""
        code = (HALT, ("store", 1, 0, 4), HALT)
        self.assertEqual(self.states(code, ((0, START),)), [START, None, None])
        self.assertEqual(self.states(code, ((0, START), (1, START))), [START, START, START])
        self.denied(1, "range", code, (MAIN,), ((0, START), (1, at(1, public(0, 10)))))
        self.granted(3, code, (MAIN,), ((0, START), (1, START)))

    def test_below(self):
        code = (("load", 1, 0, 4), ("below", 1, 5, 3), HALT, HALT)
        loaded = at(1, public(0, 9, 4, 0))
        states = self.states(code, ((0, START), (3, at(1, public(0, 4, 4, 0)))))
        self.assertEqual(states, [START, loaded, at(1, public(5, 9, 4, 0)), at(1, public(0, 4, 4, 0))])
        self.denied(1, "note", code, (MAIN,), ((0, START), (3, at(1, public(0, 3, 4, 0)))))
        for n, ahead, behind in ((9, public(0, 8, 4, 0), public(9, 9, 4, 0)), (1, public(0, 0, 4, 0), public(1, 9, 4, 0))):
            states = self.states((code[0], ("below", 1, n, 3), HALT, HALT), ((0, START), (3, at(1, ahead))))
            self.assertEqual(states[2], at(1, behind))
        # It cannot jump, or it cannot go on.
        self.assertEqual(self.states((code[0], ("below", 1, 0, 3), HALT, HALT), ((0, START),)),
                         [START, loaded, loaded, None])
        self.assertEqual(self.states((code[0], ("below", 1, 10, 3), HALT, HALT), ((0, START), (3, loaded))),
                         [START, loaded, None, loaded])

    def test_a_below_to_the_next_place(self):
        """As the named place it needs a note, as the next one it needs none."""
        self.assertEqual(self.states((("below", 0, 0, 1), HALT), ((0, START),)), [START, START])
        self.denied(0, "note", (("below", 0, 1, 1), HALT), (MAIN,), ((0, START),))

    def test_calls(self):
        code = (("call", 3), HALT, HALT, ("set", 1, 5), RET)
        five = at(1, public(5, 5))
        notes = ((0, START), (3, START))
        self.assertEqual(self.states(code, notes, (MAIN, (3, 0, five))), [START, five, None, START, five])
        self.assertEqual(self.states(code[:4] + (HALT,), notes, (MAIN, (3, 0, None))), [START, None, None, START, five])

    def test_states_of_looks_at_no_loops(self):
        self.assertEqual(self.states((("jump", 0),), ((0, START),)), [START])
        self.denied(0, "loop", (("jump", 0),), (MAIN,), ((0, START),))


class CertificatesTest(JudgeCase):
    def test_other_certificates(self):
        """The judge does what the words say with whatever certificate, and what it takes is true (point 611)."""
        seen = set()
        for seed in range(500):
            codes = Codes(seed)
            code_file = codes.code_file(codes.random.randint(1, 12))
            certificate = annotate(code_file)
            for _ in range(3):
                certificate = codes.other_certificate(certificate, len(code_file[1]))
                error = refusal(BadCode, check_code, code_file, certificate)
                other = refusal(BadCode, judging.check_code, code_file, certificate)
                self.assertEqual(error and (error.index, error.reason), other and (other.index, other.reason))
                seen.add(error and error.reason)
                if error is None:
                    bound = check_code(code_file, certificate)
                    self.assertEqual(bound, judging.check_code(code_file, certificate))
                    self.check_truth(codes, code_file, states_of(code_file, certificate), bound)
        self.assertEqual(seen, {None, "note", "address", "flow", "range", "place", "routine", "level", "loop"})

    def test_codes_that_are_taken(self):
        taken = 0
        for seed in range(1000, 1800):
            codes = Codes(seed)
            code_file = codes.code_file(codes.random.randint(1, 16))
            if refusal(BadCode, judge, code_file) is None:
                taken += 1
                self.check_truth(codes, code_file, states_of(code_file, annotate(code_file)), judge(code_file))
        self.assertGreater(taken, 200)

    def check_truth(self, codes, code_file, states, bound):
        public_words, shown, ends = None, None, None
        for state in states:
            self.assertTrue(state is None or is_state(state))
        for _ in range(3):
            public_words = codes.memory(code_file[0], public_words)
            machine = Machine(code_file, public_words)
            steps = 0
            while not machine.ended() and steps < 300:
                self.check_state(machine, states[machine.place()])
                machine.step()
                steps += 1
            self.assertLessEqual(steps, bound)
            machine.run(20000)
            self.assertLessEqual(len(machine.shown()), bound)
            self.assertIs(machine.ended() or bound > 20000, True)
            shown = shown or machine.shown()
            self.assertEqual(machine.shown(), shown)
            words = [machine.memory()[start:start + size] for start, size, flow, _ in code_file[0] if flow == "public"]
            ends = ends or words
            self.assertEqual(words, ends)

    def check_state(self, machine, state):
        self.assertIsNotNone(state)
        words, memory = machine.registers(), machine.memory()
        for word, (_, least, greatest, cell, plus) in zip(words, state[:16]):
            self.assertTrue(least <= word <= greatest)
            if cell != -1:
                self.assertEqual(word, memory[cell] + plus)

    def test_a_place_of_another_kind(self):
        """Levels and exits that are wider than they need be are taken."""
        code = (("call", 2), HALT, ("set", 1, 5), RET)
        notes = ((0, START), (2, WIDEST))
        secret = (SECRET,) * 16 + ("secret",)
        self.granted(4, code, ((0, 12, START), (2, 4, secret)), notes)
        self.denied(3, "note", code, ((0, 12, START), (2, 4, state_of({1: public(5, 5)}))), notes)


if __name__ == "__main__":
    unittest.main()
