"""Stretches: what they carry over from one state to the next is what each instruction would do."""

import unittest

from quietsmith.facts import START
from quietsmith.stretches import LONGEST, Stretches, ends_of
from quietsmith.transfer import next_state
from tests.codes import OPERATIONS, Codes, at

PLAIN = ("set", "load", "load", "store", "store", "add", "add", "carry", "clear") + OPERATIONS
LAYOUT = ((0, 4, "secret", 65535), (4, 2, "public", 9), (6, 4, "secret", 65535))
CLEAR = ("clear",)
HALT = ("halt",)


def public(least, greatest, cell=-1, plus=0):
    return ("public", least, greatest, cell, plus)


class StretchesTest(unittest.TestCase):
    def state_at_end(self, stretches, code, state):
        """The state behind the first stretch, which is the one that all instructions make of it."""
        expected = state
        for instruction in code[:stretches.ends[0]]:
            expected = next_state(stretches.regions, expected, instruction)
        self.assertEqual(stretches.state_at_end(0, state), expected, (code, state))
        return expected

    def passes(self, code, *states):
        """The states pass one after the other."""
        stretches = Stretches(LAYOUT, code, {0: True})
        for state in states:
            self.state_at_end(stretches, code, state)

    def test_ends(self):
        self.assertEqual(ends_of((CLEAR, CLEAR, HALT), {0: True}), [2, 1, 2])
        self.assertEqual(ends_of((CLEAR, CLEAR, CLEAR, HALT), {0: True, 1: True})[:2], [1, 3])
        self.assertEqual(ends_of((HALT, CLEAR, ("jump", 0), CLEAR, ("call", 1), CLEAR), {0: True}), [0, 2, 2, 4, 4, 6])
        for instruction in (("below", 1, 5, 0), ("ret",), HALT, ("jump", 0), ("call", 0)):
            self.assertEqual(ends_of((CLEAR, instruction, CLEAR, CLEAR), {0: True})[:3], [1, 1, 4])
        ends = ends_of((CLEAR,) * 100, {0: True, 50: True})
        begins = [0]
        while ends[begins[-1]] < 100:
            begins.append(ends[begins[-1]])
        self.assertEqual(begins, [0, LONGEST, 50, 50 + LONGEST])

    def test_facts_that_are_not_named(self):
        code = (("set", 1, 5), ("add", 2, 1, 1), ("store", 2, 0, 5), HALT)
        stretches = Stretches(LAYOUT, code, {0: True})
        self.assertIsNone(stretches.carried(0, START))
        self.state_at_end(stretches, code, START)
        changed = at(3, public(7, 9))
        self.assertEqual(stretches.carried(0, changed), self.state_at_end(stretches, code, changed))
        # The carry is named by the `add`, and a cell could be ended by the store.
        self.assertIsNone(stretches.carried(0, at(16, "secret", changed)))
        self.assertIsNone(stretches.carried(0, at(3, public(7, 9, 5, 0))))
        self.assertIsNone(stretches.carried(0, at(1, public(7, 9))))

    def test_each_name_of_the_carry(self):
        for name in ("add", "addc", "sub", "subc"):
            self.passes(((name, 1, 2, 3), HALT), START, at(16, "secret"), START)
        for one in (("carry", 1), CLEAR, ("move", 1, 2)):
            self.passes((one, HALT), START, at(16, "secret"), START)

    def test_cells(self):
        held = at(3, public(0, 9, 5, 1))
        for one in (("store", 1, 0, 5), ("store", 1, 0, 4), ("store", 1, 2, 0), CLEAR):
            self.passes((one, HALT), START, held, at(3, public(0, 9, 4, 1)), START, at(3, public(0, 9)), held)

    def test_random_states(self):
        for seed in range(200):
            codes = Codes(seed, PLAIN, registers=(2, 4, 16)[seed % 3])
            code = tuple(codes.instruction(place, 9, 9) for place in range(codes.random.randint(1, 12))) + (HALT,)
            stretches = Stretches(LAYOUT, code, {0: True})
            state = codes.state()
            for _ in range(12):
                self.state_at_end(stretches, code, state)
                state = codes.other_state(state)


if __name__ == "__main__":
    unittest.main()
