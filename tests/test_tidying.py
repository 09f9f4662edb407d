"""Points 810 to 814: shorter code."""

import unittest

from quietsmith.compiler import compile_program
from quietsmith.errors import BadCode
from quietsmith.judge import judge
from quietsmith.layouts import is_code_file
from quietsmith.machine import Machine
from quietsmith.running import load
from quietsmith.simplifying import simplify
from quietsmith.tidying import tidy
from tests.codes import Codes
from tests.helpers import refusal
from tests.programs import Programs

LAYOUT = ((0, 4, "secret", 65535), (4, 2, "public", 9))
HALT = ("halt",)
RET = ("ret",)
CLEAR = ("clear",)
BLOCK = ("set", "load", "load", "store", "move", "add", "carry", "below", "jump")


def below(place):
    return ("below", 1, 5, place)


class TidyCase(unittest.TestCase):
    def becomes(self, code, expected):
        code_file = (LAYOUT, tuple(code))
        copy = (LAYOUT, tuple(code))
        found = tidy(code_file)
        self.assertEqual(found, (LAYOUT, tuple(expected)), code)
        self.assertEqual(code_file, copy)
        self.assertIs(is_code_file(found), True)
        self.assertEqual(slowly_tidied(code_file), found)

    def stays(self, *code):
        self.becomes(code, code)

    def block(self, code, expected):
        """Code without any way but ahead, before a halt."""
        self.becomes((*code, HALT), (*expected, HALT))


def slowly_tidied(code_file):
    """Points 811 to 813 once more, step by step, as the words stand."""
    layout, code = code_file
    code = list(code)
    changed = True
    while changed:
        changed = False
        for place, one in enumerate(code):
            if one[0] in ("jump", "below") and place < one[-1] < len(code):
                other = code[one[-1]]
                if other[0] == "jump" and other[1] > one[-1]:
                    code[place] = one[:-1] + (other[1],)
                    changed = True
    code = placed(slow_blocks(code))
    if code is not None:
        code = placed(slow_ways(code))
    return code_file if code is None else (layout, tuple(code))


def placed(kept):
    """The instructions that are still there, with their new places; None if a place is behind the last one."""
    there = [place for place, one in enumerate(kept) if one is not None]
    if not there:
        return None
    made = []
    for place in there:
        one = kept[place]
        if one[0] in ("jump", "below", "call"):
            behind = [other for other in there if other >= one[-1]]
            if not behind:
                return None
            one = one[:-1] + (there.index(behind[0]),)
        made.append(one)
    return made


def slow_blocks(code):
    begins = {0} | {one[-1] for one in code if one[0] in ("jump", "below", "call")}
    begins |= {place + 1 for place, one in enumerate(code) if one[0] in ("jump", "below", "call", "ret", "halt")}
    kept = []
    for place, one in enumerate(code):
        if place in begins:
            words, places = {}, set()
        given = one[1] if one[0] not in ("clear", "store", "jump", "below", "call", "ret", "halt") else None
        if one[0] == "set" and words.get(one[1]) == one[2]:
            kept.append(None)
            continue
        if one[0] == "load":
            if (one[1], one[2], one[3]) in places:
                kept.append(None)
                continue
            others = sorted(reg for reg, base, number in places if (base, number) == one[2:])
            kept.append(("move", one[1], others[0]) if others else one)
        else:
            kept.append(one)
        if given is not None:
            words.pop(given, None)
            places = {known for known in places if given not in known[:2]}
        if one[0] == "set":
            words[one[1]] = one[2]
        if one[0] == "load" and one[1] != one[2]:
            places.add(one[1:])
        if one[0] == "store":
            places = {known for known in places if known[1] == one[2] and known[1:] != one[2:]}
    return kept


def slow_ways(code):
    reached, waiting = set(), [0]
    while waiting:
        place = waiting.pop()
        if place < len(code) and place not in reached:
            reached.add(place)
            if code[place][0] in ("jump", "below", "call"):
                waiting.append(code[place][-1])
            if code[place][0] not in ("jump", "ret", "halt"):
                waiting.append(place + 1)
    kept = [one if place in reached else None for place, one in enumerate(code)]
    for place in range(len(code) - 1, -1, -1):
        one = kept[place]
        if one is not None and one[0] == "jump" and one[1] > place:
            if all(other is None for other in kept[place + 1:one[1]]):
                kept[place] = None
    return kept


class JumpsTest(TidyCase):
    def test_jumps_to_jumps(self):
        self.becomes((("load", 1, 0, 4), below(4), CLEAR, HALT, ("jump", 6), HALT, RET),
                     (("load", 1, 0, 4), below(4), CLEAR, HALT, RET))
        self.becomes((below(3), CLEAR, HALT, ("jump", 5), RET, CLEAR, HALT), (below(3), CLEAR, HALT, CLEAR, HALT))
        self.becomes((below(2), ("jump", 4), ("jump", 5), RET, HALT, CLEAR, HALT),
                     (below(2), HALT, CLEAR, HALT))

    def test_in_a_row(self):
        code = (below(3), CLEAR, HALT, ("jump", 5), CLEAR, ("jump", 7), CLEAR, ("jump", 9), HALT, RET)
        self.becomes(code, (below(3), CLEAR, HALT, RET))
        code = (("jump", 2), HALT, ("jump", 4), HALT, ("jump", 6), HALT, CLEAR, HALT)
        self.becomes(code, (CLEAR, HALT))

    def test_only_ahead(self):
        # A jump that goes back, and a way to a jump that goes back.
        self.stays(CLEAR, below(3), ("jump", 0), CLEAR, HALT)
        self.stays(CLEAR, below(3), HALT, ("jump", 0))
        self.stays(CLEAR, below(3), HALT, ("jump", 1))
        self.stays(CLEAR, below(3), HALT, ("jump", 3))
        # From a place back to a jump ahead.
        self.becomes((below(4), ("jump", 5), CLEAR, HALT, ("jump", 1), RET),
                     (below(2), ("jump", 3), ("jump", 1), RET))
        self.stays(below(2), below(3), ("jump", 1), HALT)

        self.stays(("jump", 2), CLEAR, below(1), ("jump", 0))

    def test_jumps_that_are_not_needed_any_more(self):
        """All jumps go on to the last place, so the jump between is not reached."""
        first = (below(3), ("below", 2, 5, 5), ("jump", 4), HALT, ("jump", 6), CLEAR, RET)
        self.becomes(first, (below(3), ("below", 2, 5, 4), ("jump", 5), HALT, CLEAR, RET))
        first = (below(3), ("below", 2, 5, 5), below(4), HALT, ("jump", 6), CLEAR, RET)
        self.becomes(first, (below(3), ("below", 2, 5, 4), below(5), HALT, CLEAR, RET))

    def test_circles(self):
        self.stays(("jump", 0))
        self.stays(below(2), ("jump", 0), ("jump", 1))
        self.stays(CLEAR, ("jump", 0))

    def test_calls_stay(self):
        self.becomes((("call", 2), HALT, ("jump", 4), HALT, RET), (("call", 2), HALT, RET))
        self.becomes((("call", 3), below(5), HALT, ("jump", 6), HALT, CLEAR, RET),
                     (("call", 3), below(4), HALT, ("jump", 5), CLEAR, RET))

    def test_a_below_to_a_jump_behind_it(self):
        self.becomes((below(1), ("jump", 3), CLEAR, HALT), (below(1), HALT))


class BlocksTest(TidyCase):
    def test_sets(self):
        self.block((("set", 1, 5), ("set", 1, 5)), (("set", 1, 5),))
        self.block((("set", 1, 5), CLEAR, ("set", 2, 5), ("set", 1, 5), ("set", 2, 5)),
                   (("set", 1, 5), CLEAR, ("set", 2, 5)))
        self.block((("set", 1, 5), ("set", 1, 6), ("set", 1, 5)), (("set", 1, 5), ("set", 1, 6), ("set", 1, 5)))
        self.block((("set", 1, 0), ("set", 1, 0)), (("set", 1, 0),))

    def test_what_ends_a_known_word(self):
        for one in (("move", 1, 2), ("add", 1, 1, 2), ("carry", 1), ("load", 1, 0, 4), ("down", 1, 1, 0), ("set", 1, 6)):
            self.block((("set", 1, 5), one, ("set", 1, 5)), (("set", 1, 5), one, ("set", 1, 5)))
        for one in (("move", 2, 1), ("add", 2, 1, 1), ("store", 1, 0, 4), CLEAR, ("load", 2, 1, 0), ("store", 2, 1, 0)):
            self.block((("set", 1, 5), one, ("set", 1, 5)), (("set", 1, 5), one))

    def test_only_set_makes_a_word_known(self):
        code = (("set", 1, 5), ("move", 2, 1), ("set", 2, 5))
        self.block(code, code)
        code = (("set", 1, 5), ("add", 2, 1, 0), ("set", 2, 5))
        self.block(code, code)

    def test_loads(self):
        one = ("load", 1, 0, 4)
        self.block((one, one), (one,))
        self.block((one, CLEAR, ("add", 3, 1, 1), one), (one, CLEAR, ("add", 3, 1, 1)))
        self.block((one, ("load", 1, 0, 5), one), (one, ("load", 1, 0, 5), one))
        self.block((one, ("load", 1, 2, 4)), (one, ("load", 1, 2, 4)))

    def test_moves(self):
        one, two, three = [("load", reg, 0, 4) for reg in (1, 2, 3)]
        self.block((one, two), (one, ("move", 2, 1)))
        self.block((two, one, three), (two, ("move", 1, 2), ("move", 3, 1)))
        self.block((three, two, one), (three, ("move", 2, 3), ("move", 1, 2)))
        # A load that has become a move makes known what it would have made known.
        self.block((two, one, one), (two, ("move", 1, 2)))
        self.block((one, two, ("set", 1, 0), three), (one, ("move", 2, 1), ("set", 1, 0), ("move", 3, 2)))
        # A move makes nothing known.
        self.block((one, ("move", 2, 1), two), (one, ("move", 2, 1), ("move", 2, 1)))

    def test_the_register_of_the_address(self):
        one = ("load", 1, 1, 4)
        self.block((one, one), (one, one))
        two = ("load", 2, 1, 4)
        self.block((two, one), (two, ("move", 1, 2)))
        # The load has changed the register by which the place is named.
        self.block((two, one, two), (two, ("move", 1, 2), two))
        self.block((two, ("load", 1, 0, 4), two), (two, ("load", 1, 0, 4), two))

    def test_what_ends_a_known_place(self):
        one, two = ("load", 1, 3, 4), ("load", 2, 3, 4)
        for other in (("set", 1, 5), ("move", 1, 2), ("add", 1, 2, 2), ("set", 3, 0), ("move", 3, 3), ("carry", 3),
                      ("load", 3, 3, 4), ("load", 3, 0, 4), ("load", 1, 0, 4)):
            expected = [one, other, one]
            if other == ("load", 3, 3, 4):
                expected[1] = ("move", 3, 1)
            self.block((one, other, one), expected)
            if other[1] == 3:
                self.block((one, other, two), (*expected[:2], two))
        for other in (("set", 2, 5), ("move", 2, 1), CLEAR, ("add", 4, 1, 3), ("load", 4, 3, 5)):
            self.block((one, other, one), (one, other))

    def test_stores(self):
        one = ("load", 1, 3, 4)
        for other in (("store", 1, 3, 4), ("store", 2, 3, 4), ("store", 2, 0, 4), ("store", 2, 0, 5), ("store", 1, 2, 0)):
            self.block((one, other, one), (one, other, one))
        # Another number by the same register is another address.
        self.block((one, ("store", 2, 3, 5), one), (one, ("store", 2, 3, 5)))
        # A store makes nothing known.
        self.block((("store", 1, 3, 4), one), (("store", 1, 3, 4), one))
        self.block((one, ("load", 2, 3, 5), ("store", 4, 3, 5), one, ("load", 2, 3, 5)),
                   (one, ("load", 2, 3, 5), ("store", 4, 3, 5), ("load", 2, 3, 5)))

    def test_what_is_left_out_ends_nothing(self):
        one, two = ("load", 1, 0, 4), ("load", 2, 1, 5)
        # The second load of register 1 would end what is named by it.
        self.block((one, two, one, two), (one, two))
        self.block((("set", 1, 3), two, ("set", 1, 3), two), (("set", 1, 3), two))

    def test_blocks(self):
        """Nothing is known at the begin of a block."""
        one, two = ("set", 1, 5), ("load", 2, 0, 4)
        for middle, behind in (((below(3),), ()), ((("call", 6),), ()), ((("jump", 3),), ())):
            code = (one, two, *middle, one, two, HALT, RET)
            expected = code if middle[0][0] != "jump" else (one, two, one, two, HALT)
            if middle[0][0] == "below":
                expected = (one, two, below(3), one, two, HALT)
            self.becomes(code, expected)
        # A place that is named.
        self.stays(one, two, one[:2] + (6,), CLEAR, below(3), HALT)
        self.becomes((one, CLEAR, one, below(2), HALT), (one, CLEAR, one, below(2), HALT))
        self.becomes((one, CLEAR, one, below(3), HALT), (one, CLEAR, below(2), HALT))
        self.becomes((one, CLEAR, one, below(1), HALT), (one, CLEAR, one, below(1), HALT))

    def test_behind_ret_and_halt(self):
        code = (below(3), ("set", 1, 5), RET, ("set", 1, 5), HALT)
        self.stays(*code)
        code = (("call", 4), below(3), ("set", 1, 5), HALT, ("set", 1, 5), RET)
        self.stays(*code)

    def test_blocks_of_calls(self):
        one = ("set", 1, 5)
        self.stays(one, ("call", 4), one, HALT, one, RET)
        self.becomes((one, one, ("call", 5), one, HALT, one, one, RET), (one, ("call", 4), one, HALT, one, RET))

    def test_places_after_the_first_part(self):
        """The blocks are those of the code with the new places: place 4 is named by no one any more."""
        code = (below(4), ("set", 2, 1), HALT, ("set", 2, 1), ("jump", 6), HALT, RET)
        self.becomes(code, (below(3), ("set", 2, 1), HALT, RET))
        one = ("set", 1, 5)
        code = (below(3), one, one, ("jump", 5), one, CLEAR, HALT)
        self.becomes(code, (below(2), one, CLEAR, HALT))

    def test_registers_that_are_read_and_written(self):
        self.block((("load", 1, 2, 4), ("add", 1, 1, 1), ("load", 1, 2, 4)),
                   (("load", 1, 2, 4), ("add", 1, 1, 1), ("load", 1, 2, 4)))
        self.block((("load", 1, 2, 4), ("load", 2, 2, 4), ("load", 3, 2, 4)),
                   (("load", 1, 2, 4), ("move", 2, 1), ("load", 3, 2, 4)))


class WaysTest(TidyCase):
    def test_places_that_are_not_reached(self):
        self.becomes((HALT, CLEAR, RET), (HALT,))
        self.becomes((("jump", 2), CLEAR, HALT), (HALT,))
        self.becomes((below(3), HALT, CLEAR, RET), (below(2), HALT, RET))
        self.becomes((("call", 3), HALT, CLEAR, RET), (("call", 2), HALT, RET))
        # A `below` counts as going both ways, and a call as coming back.
        self.stays(("below", 0, 0, 2), HALT, RET)
        self.stays(("below", 0, 1, 2), HALT, RET)
        self.stays(("call", 2), RET, HALT)
        # What only places name that are not reached.
        self.becomes((HALT, ("call", 3), ("jump", 4), RET, HALT), (HALT,))

    def test_jumps_that_pass_nothing(self):
        self.becomes((("jump", 1), HALT), (HALT,))
        self.becomes((below(2), ("jump", 3), CLEAR, HALT), (below(2), ("jump", 3), CLEAR, HALT))
        self.becomes((CLEAR, ("jump", 3), RET, HALT), (CLEAR, HALT))
        self.becomes((("jump", 0),), (("jump", 0),))
        # From the last place to the first one: the first jump passes one that is left out.
        self.becomes((below(2), ("jump", 3), ("jump", 3), HALT), (below(1), HALT))
        self.becomes((below(3), CLEAR, ("jump", 4), ("jump", 4), HALT), (below(2), CLEAR, HALT))

    def test_places_that_are_left_out(self):
        """A place that is left out is the next one that is still there."""
        self.becomes((CLEAR, ("jump", 3), HALT, below(1), HALT), (CLEAR, below(1), HALT))
        one = ("set", 1, 5)
        self.becomes((("load", 2, 0, 4), one, one, below(1), HALT), (("load", 2, 0, 4), one, below(1), HALT))
        self.becomes((below(2), ("jump", 2), HALT), (below(1), HALT))

    def test_places_behind_the_last_one(self):
        self.stays(("jump", 1))
        self.stays(below(2), HALT)
        self.stays(below(5), ("set", 1, 5), ("set", 1, 5), HALT)
        self.stays(("call", 9), ("jump", 2), HALT)
        self.stays(("jump", 2), CLEAR, HALT, ("jump", 4))
        # Whether it is reached or not, before the third part.
        self.stays(HALT, ("jump", 2))
        self.stays(("jump", 2), CLEAR, HALT, below(19999))
        # Without such a place, the same is made shorter.
        self.becomes((("jump", 2), CLEAR, HALT, below(3)), (HALT,))

    def test_the_end_of_the_code(self):
        """Behind the last instruction, nothing is still there."""
        one = ("load", 1, 0, 4)
        # The last place is left out by the second part, but a block begins where something names it.
        self.becomes((one, one), (one,))
        self.stays(below(1), one)
        self.becomes((CLEAR, one, one), (CLEAR, one))

    def test_nothing_is_left(self):
        for code in ((("jump", 1), ("jump", 2)), (("jump", 1),), (("jump", 2), HALT), (("jump", 1), ("jump", 3), HALT)):
            self.stays(*code)

    def test_what_is_returned(self):
        code_file = (LAYOUT, (("jump", 5), HALT))
        self.assertEqual(tidy(code_file), code_file)
        self.assertEqual(tidy(((), (CLEAR, HALT))), ((), (CLEAR, HALT)))


class RandomTest(unittest.TestCase):
    def same_runs(self, code_file, shorter, memories, limit):
        for memory in memories:
            machine, other = Machine(code_file, memory), Machine(shorter, memory)
            steps, other_steps = machine.run(limit), other.run(limit)
            self.assertIs(machine.ended() and other.ended(), True)
            self.assertEqual(machine.memory(), other.memory())
            self.assertLessEqual(other_steps, steps)

    def test_as_the_words_say(self):
        for seed in range(600):
            codes = Codes(seed)
            code_file = codes.code_file(codes.random.randint(1, 20))
            self.assertEqual(tidy(code_file), slowly_tidied(code_file), code_file)
        for seed in range(600):
            codes = Codes(seed, BLOCK, registers=3)
            code_file = codes.code_file(codes.random.randint(10, 40))
            self.assertEqual(tidy(code_file), slowly_tidied(code_file), code_file)

    def test_codes_that_the_judge_takes(self):
        """Point 814."""
        changed = 0
        for seed in range(2000, 3200):
            codes = Codes(seed, registers=codes_registers(seed))
            code_file = codes.code_file(codes.random.randint(1, 16))
            if refusal(BadCode, judge, code_file) is None and judge(code_file) < 20000:
                shorter = tidy(code_file)
                self.assertLessEqual(judge(shorter), judge(code_file))
                self.same_runs(code_file, shorter, [codes.memory(code_file[0]) for _ in range(3)], 20000)
                changed += shorter != code_file
        self.assertGreater(changed, 200)

    def test_compiled_programs(self):
        for seed in range(40):
            programs = Programs(seed)
            program = programs.program()
            for one in (program, simplify(program)):
                binary = compile_program(one)
                shorter = tidy(binary[:2])
                self.assertEqual(shorter[0], binary[0])
                self.assertLessEqual(len(shorter[1]), len(binary[1]))
                self.assertLessEqual(judge(shorter), judge(binary[:2]))
                memories = [load(one, binary, programs.inputs(one)) for _ in range(2)]
                self.same_runs(binary[:2], shorter, memories, 300000)

    def test_long_codes(self):
        code = (("set", 1, 5),) * 9999 + (("load", 2, 0, 4),) * 9999 + (("jump", 19999), HALT)
        self.assertEqual(tidy((LAYOUT, code)), (LAYOUT, (("set", 1, 5), ("load", 2, 0, 4), HALT)))
        code = tuple(("jump", place + 1) for place in range(19999)) + (HALT,)
        self.assertEqual(tidy((LAYOUT, code)), (LAYOUT, (HALT,)))
        code = tuple(below(19999) for place in range(19999)) + (HALT,)
        self.assertEqual(tidy((LAYOUT, code)), (LAYOUT, code))


def codes_registers(seed):
    return (2, 4)[seed % 2]


if __name__ == "__main__":
    unittest.main()
