"""Points 600 and 601: facts, states, what fits, and unions."""

import itertools
import unittest

from quietsmith.facts import START, is_state, state_fits, union
from tests import judging
from tests.codes import Codes, at

PLAIN = ("public", 0, 0, -1, 0)
# Values that are no flow, no word, no cell and no plus.
STRANGE = (True, False, None, "", "0", "secrets", "PUBLIC", (), [], ("public",), ["public"], (0,), [0], 65536, -2)


def with_fact(*fact):
    return at(3, fact)


class StateTest(unittest.TestCase):
    def test_start(self):
        self.assertEqual(START, (PLAIN,) * 16 + ("public",))
        self.assertIs(is_state(START), True)

    def test_facts_at_their_bounds(self):
        for fact in (("public", 0, 65535, -1, 0), ("secret", 0, 0, 0, 0), ("secret", 65535, 65535, 4095, 65535),
                     ("public", 7, 8, 0, 1), ("public", 7, 7, 4095, 0), ("secret", 0, 65535, -1, 0)):
            for place in (0, 7, 15):
                self.assertIs(is_state(at(place, fact)), True, fact)

    def test_facts_beyond_their_bounds(self):
        for fact in (("public", 1, 0, -1, 0), ("public", -1, 0, -1, 0), ("public", 0, 65536, -1, 0),
                     ("public", 65536, 65536, -1, 0), ("public", 8, 7, 0, 0), ("public", 0, 0, -1, 1),
                     ("public", 0, 0, -1, -1), ("public", 0, 0, -2, 0), ("public", 0, 0, 4096, 0),
                     ("public", 0, 0, 4095, 65536), ("public", 0, 0, 5, -1), ("turn", 0, 0, -1, 0),
                     ("", 0, 0, -1, 0), (0, 0, 0, -1, 0)):
            for place in (0, 15):
                self.assertIs(is_state(at(place, fact)), False, fact)

    def test_parts_of_another_kind(self):
        for part in range(5):
            for strange in STRANGE:
                for fact in (PLAIN, ("secret", 1, 2, 3, 4)):
                    # -1 with plus 0 is a cell, and no strange value is one.
                    self.assertIs(is_state(at(3, fact[:part] + (strange,) + fact[part + 1:])), False, (part, strange))

    def test_true_and_false_are_no_words(self):
        for fact in (("public", False, 0, -1, 0), ("public", 0, False, -1, 0), ("public", 0, True, -1, 0),
                     ("public", 0, 0, -1, False), ("public", 0, 0, False, 0), ("public", 0, 0, True, 0),
                     ("public", True, True, -1, 0), ("public", 0, 0, 5, True)):
            self.assertIs(is_state(with_fact(*fact)), False, fact)

    def test_facts_of_another_form(self):
        for fact in (PLAIN[:4], PLAIN + (0,), (), list(PLAIN), None, 0, "public", True, (PLAIN,)):
            for place in (0, 15):
                self.assertIs(is_state(START[:place] + (fact,) + START[place + 1:]), False, fact)

    def test_the_flow_of_the_carry(self):
        self.assertIs(is_state(START[:16] + ("secret",)), True)
        for carry in (PLAIN, None, True, 0, 1, "", "carry", ("public",), ["public"]):
            self.assertIs(is_state(START[:16] + (carry,)), False, carry)

    def test_the_number_of_items(self):
        self.assertIs(is_state(START[1:]), False)
        self.assertIs(is_state(START[:16]), False)
        self.assertIs(is_state((PLAIN,) + START), False)
        self.assertIs(is_state(START + ("public",)), False)
        for value in (list(START), (), None, True, 0, "public" * 3, (START,), ("public",) * 17, (PLAIN,) * 17):
            self.assertIs(is_state(value), False)

    def test_random_states(self):
        codes = Codes(1)
        for _ in range(50):
            self.assertIs(is_state(codes.state()), True)


class FitsTest(unittest.TestCase):
    def fits(self, fact, other, expected):
        for place in (0, 9, 15):
            self.assertIs(state_fits(at(place, fact), at(place, other)), expected, (fact, other))

    def test_each_part(self):
        self.fits(("public", 3, 5, 7, 1), ("public", 3, 5, 7, 1), True)
        self.fits(("public", 3, 5, 7, 1), ("secret", 3, 5, 7, 1), True)
        self.fits(("secret", 3, 5, 7, 1), ("secret", 3, 5, 7, 1), True)
        self.fits(("secret", 3, 5, 7, 1), ("public", 3, 5, 7, 1), False)
        self.fits(("public", 3, 5, -1, 0), ("public", 2, 5, -1, 0), True)
        self.fits(("public", 3, 5, -1, 0), ("public", 4, 5, -1, 0), False)
        self.fits(("public", 3, 5, -1, 0), ("public", 3, 6, -1, 0), True)
        self.fits(("public", 3, 5, -1, 0), ("public", 3, 4, -1, 0), False)
        self.fits(("public", 3, 5, -1, 0), ("public", 6, 9, -1, 0), False)

    def test_cells(self):
        self.fits(("public", 0, 0, 7, 1), ("public", 0, 0, -1, 0), True)
        self.fits(("public", 0, 0, -1, 0), ("public", 0, 0, -1, 0), True)
        self.fits(("public", 0, 0, -1, 0), ("public", 0, 0, 7, 1), False)
        self.fits(("public", 0, 0, -1, 0), ("public", 0, 0, 0, 0), False)
        self.fits(("public", 0, 0, 7, 1), ("public", 0, 0, 7, 2), False)
        self.fits(("public", 0, 0, 7, 1), ("public", 0, 0, 7, 0), False)
        self.fits(("public", 0, 0, 7, 1), ("public", 0, 0, 8, 1), False)

    def test_the_carry(self):
        other = START[:16] + ("secret",)
        self.assertIs(state_fits(START, START), True)
        self.assertIs(state_fits(START, other), True)
        self.assertIs(state_fits(other, other), True)
        self.assertIs(state_fits(other, START), False)

    def test_one_wrong_fact_is_enough(self):
        wide = (("secret", 0, 65535, -1, 0),) * 16 + ("secret",)
        self.assertIs(state_fits(START, wide), True)
        self.assertIs(state_fits(wide, START), False)
        self.assertIs(state_fits(START, at(5, ("secret", 1, 65535, -1, 0), wide)), False)


class UnionTest(unittest.TestCase):
    def test_parts(self):
        for fact, other, expected in (
                (("public", 3, 5, 7, 1), ("public", 4, 9, 7, 1), ("public", 3, 9, 7, 1)),
                (("public", 3, 5, 7, 1), ("secret", 0, 4, 7, 1), ("secret", 0, 5, 7, 1)),
                (("public", 1, 2, 7, 1), ("public", 5, 6, 7, 2), ("public", 1, 6, -1, 0)),
                (("public", 1, 2, 7, 1), ("public", 1, 2, 8, 1), ("public", 1, 2, -1, 0)),
                (("public", 1, 2, 7, 1), ("public", 1, 2, -1, 0), ("public", 1, 2, -1, 0)),
                (("secret", 0, 65535, -1, 0), PLAIN, ("secret", 0, 65535, -1, 0))):
            self.assertEqual(union(at(2, fact), at(2, other)), at(2, expected))
            self.assertEqual(union(at(2, other), at(2, fact)), at(2, expected))

    def test_the_carry(self):
        other = START[:16] + ("secret",)
        for first, second, expected in ((START, START, START), (START, other, other), (other, START, other),
                                        (other, other, other)):
            self.assertEqual(union(first, second), expected)

    def test_it_is_the_least_one(self):
        """Both fit it, and no state that is narrower in one part has both."""
        codes = Codes(2)
        for _ in range(40):
            first, second = codes.state(), codes.state()
            if codes.random.random() < 0.5:
                second = codes.other_state(first)
            both = union(first, second)
            self.assertIs(is_state(both), True)
            self.assertEqual(both, union(second, first))
            self.assertEqual(both, judging.union(first, second))
            self.assertIs(state_fits(first, both) and state_fits(second, both), True)
            self.assertEqual(union(first, first), first)
            self.assertEqual(union(both, first), both)
            for narrower in self.narrower(both, first):
                self.assertIs(is_state(narrower), True)
                self.assertIs(state_fits(first, narrower) and state_fits(second, narrower), False)

    def narrower(self, state, other):
        """All states that differ from a state by one step in one part."""
        for place, (flow, least, greatest, cell, plus) in enumerate(state[:16]):
            if flow == "secret":
                yield at(place, ("public", least, greatest, cell, plus), state)
            if least < greatest:
                yield at(place, (flow, least + 1, greatest, cell, plus), state)
                yield at(place, (flow, least, greatest - 1, cell, plus), state)
            if cell == -1:
                for named in {other[place][3:], (0, 0), (9, 65535)} - {(-1, 0)}:
                    yield at(place, (flow, least, greatest) + named, state)
        if state[16] == "secret":
            yield state[:16] + ("public",)

    def test_fits_as_the_words_say(self):
        codes = Codes(3)
        seen = []
        for _ in range(300):
            first = codes.state()
            second = codes.other_state(first)
            fits = state_fits(first, second)
            self.assertIs(fits, judging.state_fits(first, second))
            seen.append(fits)
        self.assertIn(True, seen)
        self.assertIn(False, seen)

    def test_all_small_facts(self):
        facts = [(flow, least, greatest, cell, plus) for flow in ("public", "secret")
                 for least, greatest in ((0, 0), (0, 1), (1, 1)) for cell, plus in ((-1, 0), (4, 0), (4, 1))]
        for fact, other in itertools.product(facts, facts):
            self.assertIs(state_fits(at(1, fact), at(1, other)), judging.fact_fits(fact, other))
            joined = union(at(1, fact), at(1, other))[1]
            above = [one for one in facts if judging.fact_fits(fact, one) and judging.fact_fits(other, one)]
            self.assertIn(joined, above)
            self.assertTrue(all(judging.fact_fits(joined, one) for one in above))


if __name__ == "__main__":
    unittest.main()
