"""Points 602 to 604: what an instruction does to a state."""

import unittest

from quietsmith.facts import START, is_state
from quietsmith.transfer import next_state
from quietsmith.words import outcome
from tests import judging
from tests.codes import SECRET, Codes, at, state_of

# Addresses 0 to 3 secret, 4 and 5 public, 6 and 7 nothing, 8 and 9 secret.
LAYOUT = ((0, 4, "secret", 700), (4, 2, "public", 9), (8, 2, "secret", 65535))
ANY = (0, 65535)
SIDES = ("add", "addc", "sub", "subc", "mul", "high", "div", "and", "or", "xor", "less", "downby")
NOTHING = (("clear",), ("jump", 3), ("below", 1, 5, 3), ("below", 2, 0, 0), ("call", 3), ("ret",), ("halt",))


def public(least, greatest, cell=-1, plus=0):
    return ("public", least, greatest, cell, plus)


def secret(least, greatest, cell=-1, plus=0):
    return ("secret", least, greatest, cell, plus)


class TransferCase(unittest.TestCase):
    def bounds(self, name, first, second, expected):
        """The bounds of an operation on registers with these bounds."""
        state = state_of({1: public(*first), 2: public(*second)})
        self.assertEqual(next_state(LAYOUT, state, (name, 3, 1, 2)), at(3, public(*expected), state), (name, first))

    def shifts(self, name, first, k, expected):
        state = state_of({1: public(*first)})
        self.assertEqual(next_state(LAYOUT, state, (name, 3, 1, k)), at(3, public(*expected), state))

    def becomes(self, state, instruction, expected, layout=LAYOUT):
        before = tuple(state)
        self.assertEqual(next_state(layout, state, instruction), expected, instruction)
        self.assertEqual(state, before)
        self.assertIs(is_state(expected), True)


class BoundsTest(TransferCase):
    def test_set(self):
        for n in (0, 1, 65535):
            self.becomes(state_of({4: SECRET}), ("set", 4, n), state_of({4: public(n, n)}))

    def test_add(self):
        self.bounds("add", (3, 10), (5, 20), (8, 30))
        self.bounds("add", (0, 65000), (1, 535), (1, 65535))
        self.bounds("add", (0, 65000), (1, 536), ANY)
        self.bounds("add", (65535, 65535), (1, 1), ANY)

    def test_addc(self):
        self.bounds("addc", (3, 10), (5, 20), (8, 31))
        self.bounds("addc", (2, 65000), (1, 534), (3, 65535))
        self.bounds("addc", (2, 65000), (1, 535), ANY)

    def test_sub(self):
        self.bounds("sub", (20, 30), (3, 7), (13, 27))
        self.bounds("sub", (7, 30), (3, 7), (0, 27))
        self.bounds("sub", (6, 30), (3, 7), ANY)
        self.bounds("sub", (0, 65535), (0, 0), ANY)

    def test_subc(self):
        self.bounds("subc", (20, 30), (3, 7), (12, 27))
        self.bounds("subc", (8, 30), (3, 7), (0, 27))
        self.bounds("subc", (7, 30), (3, 7), ANY)

    def test_mul(self):
        self.bounds("mul", (2, 10), (3, 20), (6, 200))
        self.bounds("mul", (2, 255), (3, 257), (6, 65535))
        self.bounds("mul", (2, 256), (3, 256), ANY)
        self.bounds("mul", (0, 65535), (0, 0), (0, 0))

    def test_high(self):
        self.bounds("high", (2, 10), (3, 20), (0, 0))
        self.bounds("high", (256, 512), (256, 511), (1, 3))
        self.bounds("high", (0, 65535), (0, 65535), (0, 65534))

    def test_div(self):
        self.bounds("div", (20, 100), (3, 7), (2, 33))
        self.bounds("div", (20, 100), (1, 7), (2, 100))
        self.bounds("div", (20, 100), (0, 7), ANY)
        self.bounds("div", (20, 100), (0, 0), ANY)

    def test_bits(self):
        self.bounds("and", (20, 100), (3, 7), (0, 7))
        self.bounds("and", (2, 6), (30, 70), (0, 6))
        for name in ("or", "xor"):
            self.bounds(name, (20, 100), (3, 7), (0, 127))
            self.bounds(name, (2, 6), (30, 64), (0, 127))
            self.bounds(name, (2, 7), (3, 7), (0, 7))
            self.bounds(name, (2, 8), (3, 7), (0, 15))
            self.bounds(name, (0, 0), (0, 0), (0, 0))
            self.bounds(name, (0, 0), (0, 1), (0, 1))
            self.bounds(name, (5, 32768), (5, 5), ANY)

    def test_less_and_downby(self):
        self.bounds("less", (20, 100), (3, 7), (0, 1))
        self.bounds("less", (5, 5), (9, 9), (0, 1))
        self.bounds("downby", (20, 100), (3, 7), (0, 100))
        self.bounds("downby", (20, 100), (0, 0), (0, 100))

    def test_down(self):
        self.shifts("down", (20, 100), 0, (20, 100))
        self.shifts("down", (21, 100), 2, (5, 25))
        self.shifts("down", (21, 65535), 15, (0, 1))

    def test_up(self):
        self.shifts("up", (20, 100), 0, (20, 100))
        self.shifts("up", (20, 100), 3, (160, 800))
        self.shifts("up", (1, 32767), 1, (2, 65534))
        self.shifts("up", (1, 32768), 1, ANY)
        self.shifts("up", (0, 0), 15, (0, 0))
        self.shifts("up", (1, 1), 15, (32768, 32768))
        self.shifts("up", (1, 2), 15, ANY)

    def test_carry(self):
        self.becomes(START, ("carry", 2), at(2, public(0, 1)))
        state = at(16, "secret")
        self.becomes(state, ("carry", 2), at(2, secret(0, 1), state))

    def test_registers_that_are_read_and_written(self):
        state = state_of({1: public(3, 10), 2: public(5, 20)})
        self.becomes(state, ("add", 1, 1, 2), at(1, public(8, 30), state))
        self.becomes(state, ("sub", 2, 2, 1), at(2, public(*ANY), state))
        self.becomes(state, ("add", 1, 1, 1), at(1, public(6, 20), state))
        self.becomes(state, ("down", 2, 2, 1), at(2, public(2, 10), state))


class FlowTest(TransferCase):
    def flow(self, name, first, second, carry, expected, carry_behind):
        state = state_of({1: (first, 9, 9, -1, 0), 2: (second, 3, 3, -1, 0)}, carry)
        after = next_state(LAYOUT, state, (name, 3, 1, 2))
        self.assertEqual((after[3][0], after[16]), (expected, carry_behind), (name, first, second, carry))
        self.assertEqual(after[:3] + after[4:16], state[:3] + state[4:16])

    def test_operations(self):
        for name in SIDES:
            for first in ("public", "secret"):
                for second in ("public", "secret"):
                    for carry in ("public", "secret"):
                        read = [first, second] + ([carry] if name in ("addc", "subc") else [])
                        expected = "secret" if "secret" in read else "public"
                        behind = expected if name in ("add", "addc", "sub", "subc") else carry
                        self.flow(name, first, second, carry, expected, behind)

    def test_shifts_and_set(self):
        for carry in ("public", "secret"):
            for flow in ("public", "secret"):
                state = state_of({1: (flow, 9, 9, -1, 0), 2: SECRET}, carry)
                for name in ("down", "up"):
                    after = next_state(LAYOUT, state, (name, 3, 1, 2))
                    self.assertEqual((after[3][0], after[16]), (flow, carry))
                self.becomes(state, ("set", 1, 4), at(1, public(4, 4), state))

    def test_clear(self):
        for carry in ("public", "secret"):
            state = state_of({1: SECRET, 2: public(1, 2, 4, 1)}, carry)
            self.becomes(state, ("clear",), at(16, "public", state))

    def test_nothing(self):
        state = state_of({1: public(3, 9, 4, 7), 2: SECRET})
        for instruction in NOTHING:
            self.becomes(state, instruction, state)


class MoveTest(TransferCase):
    def test_the_whole_fact(self):
        for fact in (public(3, 9, 4, 7), SECRET, secret(3, 9, 4095, 65535), public(0, 0)):
            state = state_of({1: fact, 2: public(1, 1)}, "secret")
            self.becomes(state, ("move", 2, 1), at(2, fact, state))
            self.becomes(state, ("move", 1, 1), state)


class LoadTest(TransferCase):
    def loaded(self, place, d, fact, layout=LAYOUT):
        """Loads with these bounds in register 1."""
        for flow in ("public", "secret"):
            state = state_of({1: (flow,) + place + (-1, 0), 2: SECRET}, "secret")
            self.becomes(state, ("load", 2, 1, d), at(2, fact, state), layout)

    def test_exact_and_safe(self):
        self.loaded((0, 0), 0, secret(0, 700, 0, 0))
        self.loaded((0, 0), 3, secret(0, 700, 3, 0))
        self.loaded((2, 2), 2, public(0, 9, 4, 0))
        self.loaded((5, 5), 0, public(0, 9, 5, 0))
        self.loaded((8, 8), 1, secret(0, 65535, 9, 0))

    def test_safe_but_not_exact(self):
        self.loaded((0, 3), 0, secret(0, 700))
        self.loaded((0, 1), 2, secret(0, 700))
        self.loaded((0, 1), 4, public(0, 9))
        self.loaded((1, 2), 7, secret(0, 65535))

    def test_not_safe(self):
        for place, d in (((0, 4), 0), ((0, 1), 3), ((4, 6), 0), ((6, 6), 0), ((7, 8), 0), ((0, 0), 10),
                         ((10, 10), 0), ((0, 65535), 0), ((65535, 65535), 4095), ((0, 0), 4095), ((3, 3), 3)):
            self.loaded(place, d, SECRET)
        self.loaded((0, 0), 0, SECRET, ())
        self.loaded((5, 9), 0, SECRET, ((5, 2, "public", 9), (7, 3, "public", 9)))

    def test_the_last_address(self):
        self.loaded((1, 1), 4094, public(0, 3, 4095, 0), ((4000, 96, "public", 3),))
        self.loaded((1, 2), 4094, SECRET, ((4000, 96, "public", 3),))

    def test_the_register_of_the_address(self):
        state = state_of({1: public(4, 4)})
        self.becomes(state, ("load", 1, 1, 0), at(1, public(0, 9, 4, 0), state))

    def test_other_facts_stay(self):
        state = state_of({1: public(0, 9, 4, 0), 2: public(3, 12, 4, 3)})
        self.becomes(state, ("load", 3, 0, 4), at(3, public(0, 9, 4, 0), state))


class StoreTest(TransferCase):
    CELLS = {5: public(0, 9, 4, 0), 6: public(1, 10, 5, 1), 7: secret(0, 700, 3, 0), 8: secret(2, 9, 4, 2),
             9: public(3, 3)}

    def ended(self, place, d, *registers):
        """Which registers lose their cells by a store."""
        state = state_of({**self.CELLS, 1: ("public",) + place + (-1, 0)}, "secret")
        expected = list(state)
        for reg in registers:
            expected[reg] = expected[reg][:3] + (-1, 0)
        self.becomes(state, ("store", 2, 1, d), tuple(expected))

    def test_exact(self):
        self.ended((4, 4), 0, 5, 8)
        self.ended((0, 0), 5, 6)
        self.ended((1, 1), 2, 7)
        self.ended((2, 2), 0)
        self.ended((0, 0), 0)

    def test_several_addresses(self):
        self.ended((3, 4), 0, 5, 7, 8)
        self.ended((0, 2), 3, 5, 6, 7, 8)
        self.ended((4, 5), 0, 5, 6, 8)
        self.ended((6, 65535), 0)
        self.ended((0, 65535), 0, 5, 6, 7, 8)
        self.ended((0, 2), 0)

    def test_addresses_that_are_not_safe(self):
        self.ended((5, 7), 0, 6)
        self.ended((65535, 65535), 4095)
        state = state_of({5: public(0, 9, 4, 0)})
        self.becomes(state, ("store", 1, 0, 4), state_of({5: public(0, 9)}), ())

    def test_the_stored_register(self):
        state = state_of({5: public(0, 9, 4, 0)})
        self.becomes(state, ("store", 5, 0, 4), state_of({5: public(0, 9)}))
        self.becomes(state, ("store", 5, 0, 5), state)


class CellTest(TransferCase):
    def added(self, first, second, expected):
        state = state_of({1: first, 2: second})
        after = next_state(LAYOUT, state, ("add", 3, 1, 2))
        self.assertEqual(after[3][3:], expected, (first, second))
        self.assertEqual(after, judging.next_state(LAYOUT, state, ("add", 3, 1, 2)))

    def test_plus(self):
        self.added(public(0, 9, 4, 0), public(1, 1), (4, 1))
        self.added(public(0, 9, 4, 3), public(7, 7), (4, 10))
        self.added(public(0, 9, 0, 0), public(0, 0), (0, 0))
        self.added(secret(0, 9, 4095, 2), secret(5, 5), (4095, 7))

    def test_without_a_cell(self):
        self.added(public(0, 9), public(1, 1), (-1, 0))
        self.added(public(0, 9, 4, 0), public(1, 2), (-1, 0))
        self.added(public(0, 9, 4, 0), public(0, 9, 4, 0), (-1, 0))

    def test_the_operands_are_not_alike(self):
        self.added(public(1, 1), public(0, 9, 4, 0), (-1, 0))
        self.added(public(1, 1, 5, 0), public(2, 2, 4, 0), (5, 2))

    def test_plus_up_to_the_greatest_word(self):
        self.added(public(0, 0, 4, 65000), public(535, 535), (4, 65535))
        self.added(public(0, 0, 4, 65000), public(536, 536), (-1, 0))
        self.added(public(0, 0, 4, 65535), public(0, 0), (4, 65535))
        self.added(public(0, 0, 4, 65535), public(1, 1), (-1, 0))

    def test_the_condition_of_add(self):
        self.added(public(0, 65534, 4, 0), public(1, 1), (4, 1))
        self.added(public(0, 65535, 4, 0), public(0, 0), (4, 0))
        self.added(public(0, 65535, 4, 0), public(1, 1), (-1, 0))

    def test_other_operations_have_no_cell(self):
        for name in SIDES[1:]:
            state = state_of({1: public(8, 9, 4, 0), 2: public(0, 0)})
            self.assertEqual(next_state(LAYOUT, state, (name, 3, 1, 2))[3][3:], (-1, 0), name)
        for name in ("down", "up"):
            self.assertEqual(next_state(LAYOUT, state, (name, 3, 1, 0))[3][3:], (-1, 0))
        for instruction in (("set", 1, 3), ("carry", 1)):
            self.assertEqual(next_state(LAYOUT, state, instruction)[1][3:], (-1, 0))

    def test_a_sum_of_itself(self):
        state = state_of({1: public(0, 9, 4, 0), 2: public(1, 1)})
        self.becomes(state, ("add", 1, 1, 2), at(1, public(1, 10, 4, 1), state))
        self.becomes(state, ("add", 2, 1, 2), at(2, public(1, 10, 4, 1), state))


class RandomTest(unittest.TestCase):
    def test_as_the_words_say(self):
        """Against a second writing, on states of all kinds."""
        codes = Codes(4, registers=16)
        for _ in range(3000):
            layout = codes.layout()
            state = codes.state()
            instruction = codes.instruction(5, 9, layout[-1][0] + layout[-1][1] if layout else 0)
            after = next_state(layout, state, instruction)
            self.assertEqual(after, judging.next_state(layout, state, instruction), (layout, state, instruction))
            self.assertIs(is_state(after), True)

    def test_the_bounds_are_true(self):
        """Words within the bounds of the operands give a word within those of the result."""
        codes = Codes(5)
        names = SIDES + ("down", "up", "move")
        for _ in range(3000):
            state = codes.state()
            name = codes.random.choice(names)
            instruction = (name, 3, 1, 2)[:3 if name == "move" else 4]
            words = {reg: codes.random.choice((fact[1], fact[2], codes.random.randint(fact[1], fact[2])))
                     for reg, fact in enumerate(state[:16])}
            word, _ = outcome(instruction, words, codes.random.randint(0, 1))
            _, least, greatest, _, _ = next_state((), state, instruction)[3]
            self.assertTrue(least <= word <= greatest, (instruction, state[1:3], words))


if __name__ == "__main__":
    unittest.main()
