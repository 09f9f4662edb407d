import random
import unittest

from quietsmith.costs import Cache, Predictor, base_cycles
from quietsmith.errors import BadInput, BadRun
from quietsmith.machine import Machine
from quietsmith.words import combine
from tests.helpers import refusal

HALT = ("halt",)
OPERATIONS = ("add", "addc", "sub", "subc", "mul", "high", "div", "and", "or", "xor", "less", "downby")
LAYOUT = ((1, 2, "secret", 9), (4, 2, "public", 65535))
MEMORY = [11, 3, 9, 22, 500, 65535]


def machine_of(*code, layout=LAYOUT, memory=None):
    return Machine((layout, code), list(MEMORY) if memory is None else memory)


def view(machine):
    """Everything that can be seen of a machine."""
    return (machine.ended(), machine.place(), machine.cycles(), machine.carry(), machine.registers(),
            machine.memory(), machine.stack(), machine.shown())


def set_up(*words):
    """Instructions that set the registers from 1 on."""
    return tuple(("set", at + 1, word) for at, word in enumerate(words))


class MachineTest(unittest.TestCase):
    def after(self, code, steps, **more):
        """The machine after so many steps, all of which it must make."""
        machine = machine_of(*code, **more)
        for _ in range(steps):
            self.assertIs(machine.step(), True)
        return machine

    def test_example(self):
        machine = Machine((((0, 2, "secret", 65535),), (
            ("load", 3, 0, 1), ("add", 3, 3, 3), ("store", 3, 0, 0), HALT)), [7, 40000])
        self.assertEqual(machine.run(10), 4)
        self.assertEqual(machine.memory(), [14464, 40000])
        self.assertEqual(machine.shown(), [(0, 1, 7), (1, -1, 8), (2, 0, 10), (3, -1, 11)])

    def test_start(self):
        self.assertEqual(view(machine_of(HALT)), (False, 0, 0, 0, [0] * 16, MEMORY, [], []))
        self.assertEqual(view(Machine(((), (HALT,)), [])), (False, 0, 0, 0, [0] * 16, [], [], []))

    def test_wrong_memories(self):
        for memory in (MEMORY[:-1], MEMORY + [0], [], tuple(MEMORY), None, [11, 10, 9, 22, 500, 65535],
                       [-1] + MEMORY[1:], [True] + MEMORY[1:], [65536] + MEMORY[1:], MEMORY[:-1] + ["0"]):
            self.assertIsNotNone(refusal(BadInput, Machine, (LAYOUT, (HALT,)), memory), memory)
        self.assertIsNotNone(refusal(BadInput, Machine, ((), (HALT,)), [0]))

    def test_set_and_move(self):
        machine = self.after((("set", 15, 65535), ("move", 0, 15), ("set", 15, 7), ("move", 3, 3)), 4)
        self.assertEqual(machine.registers(), [65535] + [0] * 14 + [7])
        self.assertEqual((machine.place(), machine.cycles(), machine.carry()), (4, 4, 0))

    def test_operations(self):
        numbers = random.Random(11)
        for name in OPERATIONS:
            for _ in range(30):
                a, b = (numbers.choice((0, 1, 2, 16, 17, 32768, 65534, 65535, numbers.randrange(65536)))
                        for _ in range(2))
                for carry in (0, 1):
                    # 65535 + carry is what gives the carry here.
                    code = set_up(a, b, 65535, carry) + (("add", 5, 3, 4), (name, 6, 1, 2), HALT)
                    machine = self.after(code, 6)
                    word, after = combine(name, a, b, carry)
                    self.assertEqual(machine.registers()[:7], [0, a, b, 65535, carry, 65535 + carry & 65535, word])
                    self.assertEqual(machine.carry(), after)
                    digits = len(bin(word)) - 2 if name == "div" and word else 0
                    self.assertEqual(machine.cycles(), 5 + base_cycles(name) + digits)
                    self.assertEqual(machine.place(), 6)

    def test_shifts(self):
        for name in ("down", "up"):
            for k in range(16):
                for carry in (0, 1):
                    code = set_up(43981, 65535, carry) + (("add", 4, 2, 3), (name, 5, 1, k))
                    machine = self.after(code, 5)
                    self.assertEqual(machine.registers()[5], combine(name, 43981, k, 0)[0])
                    self.assertEqual((machine.carry(), machine.cycles()), (carry, 5))

    def test_results_in_an_operand(self):
        machine = self.after(set_up(7, 9) + (("sub", 1, 1, 2), ("mul", 2, 2, 2), ("up", 2, 2, 1)), 5)
        self.assertEqual(machine.registers()[:3], [0, 65534, 162])
        machine = self.after((("set", 0, 9), ("add", 0, 0, 0)), 2)
        self.assertEqual(machine.registers()[0], 18)

    def test_carry_and_clear(self):
        code = set_up(65535, 1) + (("carry", 3), ("add", 4, 1, 2), ("carry", 5), ("clear",), ("carry", 6), ("clear",))
        machine = self.after(code, 8)
        self.assertEqual(machine.registers()[:7], [0, 65535, 1, 0, 0, 1, 0])
        self.assertEqual(machine.carry(), 0)
        self.assertEqual(self.after(code, 5).carry(), 1)
        self.assertEqual(machine.cycles(), 8)

    def test_what_leaves_the_carry(self):
        layout = ((0, 1, "secret", 9),)
        for instruction in (("set", 1, 1), ("move", 1, 2), ("carry", 3), ("load", 1, 0, 0), ("store", 0, 0, 0),
                            ("jump", 4), ("below", 1, 9, 4), ("below", 1, 0, 4), ("call", 4), ("ret",), HALT,
                            ("mul", 1, 1, 2), ("less", 1, 1, 2), ("div", 1, 1, 2), ("down", 1, 1, 3)):
            machine = self.after(set_up(1, 65535) + (("add", 3, 1, 2), instruction), 4, layout=layout, memory=[0])
            self.assertEqual(machine.carry(), 1, instruction)

    def test_load_and_store(self):
        code = (("load", 1, 0, 5), ("set", 2, 3), ("load", 3, 2, 1), ("store", 2, 2, 2), ("store", 2, 0, 2), HALT)
        machine = self.after(code, 6)
        self.assertEqual(machine.registers()[:4], [0, 65535, 3, 500])
        self.assertEqual(machine.memory(), [11, 3, 3, 22, 500, 3])
        self.assertEqual(machine.shown(), [(0, 5, 7), (1, -1, 8), (2, 4, 10), (3, 5, 12), (4, 2, 19), (5, -1, 20)])

    def test_load_into_its_own_register(self):
        machine = self.after((("set", 1, 2), ("load", 1, 1, 2)), 2)
        self.assertEqual(machine.registers()[1], 500)

    def test_greatest_words_of_regions(self):
        machine = self.after((("set", 1, 9), ("store", 1, 0, 1), ("set", 1, 65535), ("store", 1, 0, 4)), 4)
        self.assertEqual(machine.memory(), [11, 9, 9, 22, 65535, 65535])

    def test_jumps(self):
        machine = self.after((("jump", 2), HALT, ("jump", 0)), 3)
        self.assertEqual((machine.place(), machine.cycles()), (2, 6))
        self.assertEqual(machine.shown(), [(0, -1, 2), (2, -1, 4), (0, -1, 6)])

    def test_below(self):
        for word, bound, jumps in ((0, 0, False), (0, 1, True), (5, 5, False), (4, 5, True), (65535, 65535, False),
                                   (65534, 65535, True), (65535, 0, False)):
            machine = self.after((("set", 1, word), ("below", 1, bound, 0)), 2)
            self.assertEqual(machine.place(), 0 if jumps else 2)
            self.assertEqual(machine.cycles(), 5 if jumps else 2)

    def test_below_to_the_next_place(self):
        """There is no jump if the next place is the place plus one."""
        machine = self.after((("below", 1, 9, 1), ("jump", 0)), 4)
        self.assertEqual(machine.cycles(), 1 + 2 + 1 + 2)

    def test_predictor_in_a_run(self):
        code = (("set", 2, 1), ("add", 1, 1, 2), ("below", 1, 5, 1), HALT)
        machine = machine_of(*code)
        self.assertEqual(machine.run(100), 12)
        # Wrong at the first jump, then right, and wrong at the end.
        self.assertEqual(machine.shown(), [
            (0, -1, 1), (1, -1, 2), (2, -1, 6), (1, -1, 7), (2, -1, 8), (1, -1, 9), (2, -1, 10),
            (1, -1, 11), (2, -1, 12), (1, -1, 13), (2, -1, 17), (3, -1, 18)])

    def test_counters_of_places(self):
        """Places that differ by 16 share a counter, in a machine too."""
        code = [HALT] * 40
        code[0] = ("below", 0, 1, 16)
        code[16] = ("below", 0, 1, 32)
        code[32] = ("below", 0, 1, 33)
        machine = self.after(code, 4)
        self.assertEqual(machine.shown(), [(0, -1, 4), (16, -1, 5), (32, -1, 9), (33, -1, 10)])

    def test_cache_in_a_run(self):
        layout = ((0, 64, "secret", 65535),)
        code = (("load", 1, 0, 0), ("load", 1, 0, 3), ("store", 1, 0, 32), ("load", 1, 0, 1), ("store", 1, 0, 4),
                ("load", 1, 0, 7), HALT)
        machine = machine_of(*code, layout=layout, memory=[0] * 64)
        self.assertEqual(machine.run(9), 7)
        self.assertEqual([row[2] for row in machine.shown()], [7, 9, 16, 23, 30, 32, 33])

    def test_machines_share_nothing(self):
        code = (("load", 1, 0, 1), ("below", 1, 9, 1), HALT)
        one = self.after(code, 3)
        other = self.after(code, 3)
        self.assertEqual(one.shown(), [(0, 1, 7), (1, -1, 11), (1, -1, 12)])
        self.assertEqual(other.shown(), one.shown())

    def test_call_and_ret(self):
        code = (("call", 3), ("call", 3), HALT, ("call", 5), ("ret",), ("ret",))
        machine = machine_of(*code)
        stacks = []
        places = []
        while machine.step():
            stacks.append(machine.stack())
            places.append(machine.place())
        self.assertEqual(stacks, [[1], [1, 4], [1], [], [2], [2, 4], [2], [], []])
        self.assertEqual(places, [3, 5, 4, 1, 3, 5, 4, 2, 2])
        self.assertEqual(machine.cycles(), 17)
        self.assertEqual([row[:2] for row in machine.shown()],
                         [(0, -1), (3, -1), (5, -1), (4, -1), (1, -1), (3, -1), (5, -1), (4, -1), (2, -1)])

    def test_sixteen_places_on_the_stack(self):
        machine = machine_of(("call", 0))
        for count in range(1, 17):
            self.assertIs(machine.step(), True)
            self.assertEqual(machine.stack(), [1] * count)
        self.raises(machine, "depth")
        code = tuple(("call", at + 1) for at in range(16)) + (("ret",),)
        machine = machine_of(*code)
        self.assertEqual(machine.run(17), 17)
        self.assertEqual(machine.stack(), list(range(1, 16)))
        self.assertEqual(machine.place(), 16)

    def test_ret_with_an_empty_stack(self):
        machine = self.after((("set", 1, 5), ("ret",), HALT), 2)
        self.ended_at(machine, 1, 3)
        self.assertEqual(machine.shown(), [(0, -1, 1), (1, -1, 3)])

    def test_halt(self):
        machine = self.after((("set", 1, 5), HALT, HALT), 2)
        self.ended_at(machine, 1, 2)
        machine = self.after((("call", 1), HALT), 2)
        self.ended_at(machine, 1, 3)
        self.assertEqual(machine.stack(), [1])

    def ended_at(self, machine, place, cycles):
        """The machine has ended here, and makes no more steps."""
        self.assertIs(machine.ended(), True)
        self.assertEqual((machine.place(), machine.cycles()), (place, cycles))
        before = view(machine)
        for _ in range(3):
            self.assertIs(machine.step(), False)
            self.assertEqual(machine.run(5), 0)
            self.assertEqual(view(machine), before)

    def raises(self, machine, reason):
        """The next step raises this, nothing changes, and so does each call after it."""
        before = view(machine)
        for _ in range(2):
            self.assertEqual(refusal(BadRun, machine.step).reason, reason)
            self.assertEqual(view(machine), before)
            self.assertEqual(refusal(BadRun, machine.run, 1).reason, reason)
            self.assertEqual(refusal(BadRun, machine.run, 100).reason, reason)
            self.assertEqual(view(machine), before)
            self.assertEqual(machine.run(0), 0)
        self.assertIs(machine.ended(), False)

    def test_places_behind_the_code(self):
        for code, steps in (((("set", 1, 1),), 1), ((("jump", 1),), 1), ((("jump", 19999),), 1),
                            ((("below", 0, 1, 500),), 1), ((("below", 0, 0, 0),), 1), ((("call", 7), HALT), 1),
                            ((("clear",), ("jump", 3), HALT), 2)):
            self.raises(self.after(code, steps), "place")

    def test_a_place_behind_the_code_from_the_stack(self):
        machine = self.after((("jump", 2), ("ret",), ("call", 1)), 3)
        self.assertEqual(machine.place(), 3)
        self.raises(machine, "place")

    def test_addresses(self):
        for address in (0, 3, 6, 7, 4095):
            for name in ("load", "store"):
                self.raises(self.after((("set", 1, 1), (name, 2, 0, address)), 1), "address")
        for address in (1, 2, 4, 5):
            self.assertIs(machine_of(("load", 2, 0, address)).step(), True)
            self.assertIs(machine_of(("store", 2, 0, address)).step(), True)
        self.raises(machine_of(("load", 1, 0, 0), layout=(), memory=[]), "address")

    def test_addresses_are_not_taken_modulo_65536(self):
        for offset in (2, 3, 4095):
            for name in ("load", "store"):
                self.raises(self.after((("set", 1, 65535), (name, 2, 1, offset)), 1), "address")
        self.raises(self.after((("set", 1, 65535), ("load", 2, 1, 0)), 1), "address")
        machine = self.after((("set", 1, 4095), ("load", 2, 1, 0)), 2, layout=((4095, 1, "secret", 7),),
                             memory=[0] * 4095 + [7])
        self.assertEqual(machine.registers()[2], 7)
        self.raises(self.after((("set", 1, 4095), ("load", 2, 1, 1)), 1, layout=((4095, 1, "secret", 7),),
                               memory=[0] * 4096), "address")

    def test_words_that_are_too_great(self):
        for word in (10, 11, 65535):
            for address in (1, 2):
                self.raises(self.after((("set", 1, word), ("store", 1, 0, address)), 1), "word")
        self.raises(self.after((("set", 1, 10), ("store", 1, 0, 3)), 1), "address")

    def test_errors_leave_the_cache_alone(self):
        machine = machine_of(("set", 1, 10), ("store", 1, 0, 1), HALT)
        machine.step()
        self.raises(machine, "word")
        self.assertEqual(machine.cache.lines(), Cache().lines())
        self.assertEqual(machine.predictor.counters(), Predictor().counters())

    def test_run(self):
        code = (("set", 1, 1), ("set", 2, 2), ("set", 3, 3), HALT)
        machine = machine_of(*code)
        self.assertEqual(machine.run(0), 0)
        self.assertEqual(view(machine), view(machine_of(*code)))
        self.assertEqual(machine.run(2), 2)
        self.assertEqual(machine.place(), 2)
        self.assertIs(machine.ended(), False)
        self.assertEqual(machine.run(2), 2)
        self.assertIs(machine.ended(), True)
        self.assertEqual(machine.run(2), 0)
        self.assertEqual(machine_of(*code).run(3), 3)
        self.assertEqual(machine_of(*code).run(4), 4)
        self.assertEqual(machine_of(*code).run(10 ** 20), 4)

    def test_run_into_an_error(self):
        code = (("set", 1, 1), ("set", 2, 2), ("load", 1, 0, 0), HALT)
        machine = machine_of(*code)
        self.assertEqual(refusal(BadRun, machine.run, 3).reason, "address")
        self.assertEqual(view(machine), view(self.after(code, 2)))
        self.raises(machine, "address")
        machine = machine_of(*code)
        self.assertEqual(machine.run(2), 2)
        self.raises(machine, "address")

    def test_run_and_steps(self):
        """A run of a number of steps does what so many calls of step do."""
        code = (("set", 2, 1), ("load", 3, 0, 1), ("add", 1, 1, 2), ("call", 8), ("below", 1, 4, 1), ("store", 3, 0, 4),
                ("div", 4, 3, 2), HALT, ("mul", 5, 1, 1), ("xor", 3, 3, 1), ("ret",))
        for steps in range(40):
            one = machine_of(*code)
            made = one.run(steps)
            other = machine_of(*code)
            self.assertEqual(sum(other.step() for _ in range(steps)), made)
            self.assertEqual(view(one), view(other))
        self.assertIs(one.ended(), True)
        self.assertEqual(len(one.shown()), made)

    def test_digits_of_div(self):
        for a, b, digits in ((0, 5, 0), (4, 5, 0), (5, 5, 1), (9, 5, 1), (15, 5, 2), (65535, 1, 16), (32768, 1, 16),
                             (32767, 1, 15), (0, 0, 16), (7, 0, 16), (65535, 65535, 1), (65534, 65535, 0), (1000, 10, 7)):
            machine = self.after(set_up(a, b) + (("div", 3, 1, 2),), 3)
            self.assertEqual(machine.cycles(), 2 + 2 + digits, (a, b))
            self.assertEqual(machine.registers()[3], a // b if b else 65535)
            self.assertEqual(machine.shown()[-1], (2, -1, 4 + digits))

    def test_cycles(self):
        for instruction, cycles in (
                (("mul", 1, 2, 3), 4), (("high", 1, 2, 3), 4), (("downby", 1, 2, 3), 2), (("jump", 0), 2),
                (("call", 0), 2), (("ret",), 2), (("halt",), 1), (("load", 1, 0, 1), 7), (("store", 1, 0, 1), 7),
                (("below", 1, 1, 5), 4), (("below", 1, 0, 5), 1), (("set", 1, 2), 1), (("move", 1, 2), 1),
                (("add", 1, 2, 3), 1), (("addc", 1, 2, 3), 1), (("sub", 1, 2, 3), 1), (("subc", 1, 2, 3), 1),
                (("and", 1, 2, 3), 1), (("or", 1, 2, 3), 1), (("xor", 1, 2, 3), 1), (("less", 1, 2, 3), 1),
                (("down", 1, 2, 3), 1), (("up", 1, 2, 3), 1), (("carry", 1), 1), (("clear",), 1), (("div", 1, 2, 3), 18)):
            machine = self.after((instruction,), 1)
            self.assertEqual(machine.cycles(), cycles, instruction)
            address = 1 if instruction[0] in ("load", "store") else -1
            self.assertEqual(machine.shown(), [(0, address, cycles)])

    def test_lists_are_not_kept(self):
        memory = list(MEMORY)
        machine = machine_of(("store", 0, 0, 1), ("call", 2), HALT, memory=memory)
        memory[1] = 8
        self.assertEqual(machine.memory(), MEMORY)
        machine.run(2)
        self.assertEqual(memory, [11, 8, 9, 22, 500, 65535])
        before = view(machine)
        machine.registers()[0] = 9
        machine.memory()[0] = 9
        machine.stack().append(5)
        machine.stack().clear()
        machine.shown().append((1, 1, 1))
        machine.shown().clear()
        self.assertEqual(view(machine), before)

    def test_kinds_of_values(self):
        machine = self.after((("load", 1, 0, 1), ("call", 2), HALT), 3)
        self.assertIs(type(machine.shown()), list)
        self.assertTrue(all(type(row) is tuple for row in machine.shown()))
        for number in (machine.place(), machine.cycles(), machine.carry(), *machine.registers()):
            self.assertIs(type(number), int)
        less = self.after((("less", 1, 0, 0), ("carry", 2)), 2)
        self.assertIs(type(less.registers()[1]), int)
        self.assertIs(type(less.registers()[2]), int)


if __name__ == "__main__":
    unittest.main()
