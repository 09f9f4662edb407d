"""The judge that the tests of the compiler use: it would tell if the code were wrong."""

import unittest

from quietsmith.compiler import compile_program
from quietsmith.errors import BadCode
from tests.helpers import read, refusal
from tests.judging import START, annotate, judge, next_state

LAYOUT = ((0, 4, "secret", 65535), (4, 2, "public", 9))
HALT = ("halt",)


class JudgingTest(unittest.TestCase):
    def refused(self, place, reason, *code, layout=LAYOUT):
        error = refusal(BadCode, judge, (layout, code))
        self.assertIsNotNone(error, code)
        self.assertEqual((error.index, error.reason), (place, reason))

    def test_examples(self):
        layout = ((0, 4, "secret", 65535),)
        self.assertEqual(judge((layout, (("set", 2, 1), ("load", 3, 1, 0), ("add", 1, 1, 2), ("below", 1, 4, 1), HALT))), 14)
        self.refused(1, "flow", ("load", 3, 1, 0), ("below", 3, 5, 2), HALT, layout=layout)

    def test_refusals(self):
        self.refused(1, "flow", ("load", 1, 0, 0), ("load", 2, 1, 0), HALT)
        self.refused(1, "flow", ("load", 1, 0, 0), ("store", 1, 0, 4), HALT)
        self.refused(1, "flow", ("load", 1, 0, 0), ("div", 2, 2, 1), HALT)
        self.refused(1, "range", ("set", 1, 10), ("store", 1, 0, 5), HALT)
        self.refused(0, "address", ("load", 1, 0, 6), HALT)
        self.refused(1, "address", ("set", 1, 4), ("load", 2, 1, 2), HALT)
        self.refused(0, "place", ("jump", 7), HALT)
        self.refused(0, "place", ("clear",))
        self.refused(0, "level", ("call", 0), HALT)
        self.refused(0, "routine", ("jump", 3), ("call", 3), HALT, ("ret",))
        self.refused(0, "loop", ("jump", 0))
        self.refused(2, "loop", ("set", 2, 1), ("sub", 1, 1, 2), ("below", 1, 4, 1), HALT)
        self.refused(3, "loop", ("set", 2, 0), ("set", 3, 5), ("add", 1, 1, 2), ("below", 1, 4, 1), HALT)

    def test_counters_in_memory(self):
        turn = (("load", 1, 0, 5), ("below", 1, 9, 4), HALT, HALT, ("set", 2, 1), ("add", 1, 1, 2), ("store", 1, 0, 5),
                ("jump", 0))
        self.assertEqual(judge((LAYOUT, turn)), 70)
        # A store that is not reached does not count.
        wrong = turn[:3] + (("store", 0, 0, 5),) + turn[4:]
        self.assertEqual(judge((LAYOUT, wrong)), 70)
        wrong = (("store", 0, 0, 5), ("load", 1, 0, 5), ("below", 1, 9, 4), HALT) + turn[4:]
        self.refused(7, "loop", *wrong)

    def test_facts(self):
        state = next_state(LAYOUT, START, ("set", 1, 7))
        self.assertEqual(state[1], ("public", 7, 7, -1, 0))
        state = next_state(LAYOUT, state, ("load", 2, 0, 4))
        self.assertEqual(state[2], ("public", 0, 9, 4, 0))
        state = next_state(LAYOUT, state, ("add", 3, 2, 1))
        self.assertEqual(state[3], ("public", 7, 16, 4, 7))
        state = next_state(LAYOUT, state, ("store", 1, 0, 4))
        self.assertEqual(state[3], ("public", 7, 16, -1, 0))

    def test_spoiled_code_is_refused(self):
        """Code of the compiler in which an address depends on a secret, or a mask is missing."""
        program = read("y = x[k];", params="secret x 9 [4], public k 3")
        layout, code, _, _ = compile_program(program)
        self.assertIsInstance(judge((layout, code)), int)
        at = [instruction[:2] for instruction in code].index(("and", 15))
        spoiled = code[:at] + (("move", 15, code[at][2]),) + code[at + 1:]
        self.assertEqual(refusal(BadCode, judge, (layout, spoiled)).reason, "address")
        spoiled = code[:at] + (("load", 15, 0, layout[-1][0]),) + code[at + 1:]
        self.assertEqual(refusal(BadCode, judge, (layout, spoiled)).reason, "flow")

    def test_notes(self):
        routines, notes = annotate((LAYOUT, (("call", 2), HALT, ("set", 1, 5), ("ret",))))
        self.assertEqual([(first, level) for first, level, _ in routines], [(0, 1), (2, 0)])
        self.assertIsNone(routines[0][2])
        self.assertEqual(routines[1][2][1], ("public", 5, 5, -1, 0))
        self.assertEqual([place for place, _ in notes], [0, 2])


if __name__ == "__main__":
    unittest.main()
