"""Points 605 to 607, 612 and 613: making certificates."""

import unittest

from quietsmith.annotate import annotate
from quietsmith.certificates import is_certificate
from quietsmith.facts import START
from tests import judging
from tests.codes import SECRET, Codes, at, state_of

LAYOUT = ((0, 4, "secret", 65535), (4, 2, "public", 9), (6, 1, "public", 40))
HALT = ("halt",)
RET = ("ret",)
CLEAR = ("clear",)
STRAIGHT = ("set", "add", "add", "addc", "sub", "move", "load", "load", "store", "carry", "clear", "and", "up", "down")


def public(least, greatest, cell=-1, plus=0):
    return ("public", least, greatest, cell, plus)


class AnnotateCase(unittest.TestCase):
    def parts(self, *code, layout=LAYOUT):
        """The routines as a dict from the first places, and the notes as a dict."""
        code_file = (layout, code)
        certificate = annotate(code_file)
        self.assertEqual(code_file, (layout, tuple(code)))
        self.assertIs(is_certificate(code_file, certificate), True)
        self.assertEqual(annotate(code_file), certificate)
        self.assertEqual(judging.annotate(code_file), certificate)
        routines, notes = certificate
        return {first: (level, leaving) for first, level, leaving in routines}, dict(notes)

    def levels(self, *code):
        return {first: level for first, (level, _) in self.parts(*code)[0].items()}


class RoutinesTest(AnnotateCase):
    def test_no_call(self):
        self.assertEqual(self.parts(HALT), ({0: (0, None)}, {0: START}))

    def test_first_places(self):
        self.assertEqual(self.levels(("call", 3), ("call", 4), HALT, RET, RET), {0: 1, 3: 0, 4: 0})
        self.assertEqual(self.levels(("call", 2), HALT, RET, ("jump", 5), RET, RET), {0: 1, 2: 0})

    def test_calls_that_are_not_reached(self):
        """They begin routines, but make no level."""
        routines, notes = self.parts(HALT, ("call", 3), HALT, RET)
        self.assertEqual(routines, {0: (0, None), 3: (0, None)})
        self.assertEqual(notes, {0: START})
        self.assertEqual(self.levels(("below", 0, 0, 3), ("call", 5), HALT, ("call", 6), HALT, RET, RET),
                         {0: 1, 5: 0, 6: 0})

    def test_calls_of_the_first_place(self):
        self.assertEqual(self.levels(("call", 0), HALT), {0: 16})
        self.assertEqual(self.levels(("call", 2), HALT, ("call", 0), RET), {0: 16, 2: 16})

    def test_places_beyond_the_code(self):
        self.assertEqual(self.levels(("call", 2), HALT), {0: 0})
        self.assertEqual(self.levels(("call", 19999), HALT), {0: 0})
        routines, notes = self.parts(("below", 0, 1, 9), ("jump", 2))
        self.assertEqual((routines, notes), ({0: (0, None)}, {0: START}))
        self.assertEqual(self.parts(("clear",)), ({0: (0, None)}, {0: START}))
        self.assertEqual(self.levels(("below", 0, 0, 3), ("call", 4), HALT, HALT, ("call", 9), RET), {0: 1, 4: 0})

    def test_chains(self):
        code = [("call", 2), HALT]
        for _ in range(3):
            code += [("call", len(code) + 2), RET]
        self.assertEqual(self.levels(*code, RET), {0: 4, 2: 3, 4: 2, 6: 1, 8: 0})

    def test_chains_with_several_ways(self):
        self.assertEqual(self.levels(("call", 3), ("call", 5), HALT, ("call", 5), RET, RET), {0: 2, 3: 1, 5: 0})
        self.assertEqual(self.levels(("call", 5), ("call", 3), HALT, ("call", 5), RET, RET), {0: 2, 3: 1, 5: 0})

    def test_chains_of_sixteen_and_more(self):
        for length in (15, 16, 17, 18, 25):
            code = [("call", 2), HALT]
            for _ in range(length - 1):
                code += [("call", len(code) + 2), RET]
            levels = self.levels(*code, RET)
            self.assertEqual([levels[first] for first in sorted(levels)],
                             [min(16, level) for level in range(length, -1, -1)])

    def test_circles(self):
        code = (("call", 2), HALT, ("call", 4), RET, ("below", 0, 0, 7), ("call", 2), RET, RET)
        self.assertEqual(self.levels(*code), {0: 16, 2: 16, 4: 16})
        code = (("call", 3), ("call", 5), HALT, ("call", 3), RET, RET)
        self.assertEqual(self.levels(*code), {0: 16, 3: 16, 5: 0})
        # The circle is reached only behind a call that comes back.
        code = (("call", 3), ("call", 4), HALT, RET, ("call", 4), RET)
        self.assertEqual(self.levels(*code), {0: 16, 3: 0, 4: 16})


class ExitsTest(AnnotateCase):
    def test_exits(self):
        routines, notes = self.parts(("call", 2), HALT, ("set", 1, 5), RET)
        self.assertEqual(routines, {0: (1, None), 2: (0, at(1, public(5, 5)))})
        self.assertEqual(notes, {0: START, 2: START})

    def test_the_exit_of_the_first_routine(self):
        routines, _ = self.parts(("set", 1, 5), RET)
        self.assertEqual(routines, {0: (0, at(1, public(5, 5)))})

    def test_exits_are_round(self):
        routines, _ = self.parts(("set", 1, 5), ("set", 2, 3), ("add", 1, 1, 2), RET)
        self.assertEqual(routines[0][1], state_of({1: public(5, 9), 2: public(3, 3)}))

    def test_several_ways_out(self):
        routines, _ = self.parts(("load", 1, 0, 4), ("below", 1, 3, 4), ("set", 1, 40), RET, RET)
        self.assertEqual(routines[0][1], at(1, public(0, 40)))

    def test_several_callers(self):
        code = (("call", 5), ("load", 1, 0, 0), ("call", 5), HALT, HALT, ("set", 2, 7), RET)
        routines, notes = self.parts(*code)
        self.assertEqual(notes[5], state_of({1: ("secret", 0, 65535, -1, 0), 2: public(0, 7)}))
        self.assertEqual(routines[5][1], state_of({1: ("secret", 0, 65535, -1, 0), 2: public(7, 7)}))

    def test_routines_that_never_end(self):
        routines, notes = self.parts(("call", 3), ("set", 1, 4), ("jump", 1), ("jump", 3))
        self.assertEqual((routines, notes), ({0: (1, None), 3: (0, None)}, {0: START, 3: START}))

    def test_a_way_into_another_routine(self):
        """A `ret` belongs to the routine in which it stands, whoever came there."""
        routines, _ = self.parts(("set", 1, 5), ("jump", 4), ("call", 4), HALT, RET)
        self.assertEqual(routines, {0: (0, None), 4: (0, at(1, public(5, 5)))})
        routines, notes = self.parts(("set", 1, 5), ("below", 0, 0, 3), ("clear",), ("set", 2, 1), RET, ("call", 3))
        self.assertEqual(routines, {0: (0, None), 3: (0, state_of({1: public(5, 5), 2: public(1, 1)}))})
        self.assertEqual(notes[3], at(1, public(5, 5)))


class NotesTest(AnnotateCase):
    def test_jumps_ahead(self):
        _, notes = self.parts(("set", 1, 5), ("jump", 3), ("set", 1, 6), HALT)
        self.assertEqual(notes, {0: START, 3: at(1, public(5, 5))})

    def test_choices(self):
        code = (("load", 1, 0, 4), ("below", 1, 3, 4), ("set", 2, 7), ("jump", 5), ("set", 2, 8), HALT)
        _, notes = self.parts(*code)
        self.assertEqual(notes[4], at(1, public(0, 2, 4, 0)))
        self.assertEqual(notes[5], state_of({1: public(0, 9, 4, 0), 2: public(7, 8)}))

    def test_ways_of_below(self):
        """A `below` jumps if it can, and goes on if it can."""
        for n, ahead, behind in ((5, True, False), (4, False, True), (0, False, True), (65535, True, False)):
            _, notes = self.parts(("set", 1, 4), ("below", 1, n, 3), ("jump", 4), HALT, HALT)
            self.assertEqual((3 in notes, 4 in notes), (ahead, behind), n)
        _, notes = self.parts(("load", 1, 0, 4), ("below", 1, 9, 3), ("jump", 4), HALT, HALT)
        self.assertEqual((notes[3][1], notes[4][1]), (public(0, 8, 4, 0), public(9, 9, 4, 0)))
        _, notes = self.parts(("load", 1, 0, 4), ("below", 1, 10, 3), ("jump", 4), HALT, HALT)
        self.assertEqual(notes, {0: START, 3: at(1, public(0, 9, 4, 0))})

    def test_counters_in_registers(self):
        _, notes = self.parts(("set", 2, 1), ("add", 1, 1, 2), ("below", 1, 9, 1), HALT)
        self.assertEqual(notes, {0: START, 1: state_of({1: public(0, 8), 2: public(1, 1)})})

    def test_counters_in_memory(self):
        code = (("load", 1, 0, 5), ("below", 1, 9, 3), HALT, ("set", 2, 1), ("add", 1, 1, 2), ("store", 1, 0, 5),
                ("jump", 0))
        _, notes = self.parts(*code)
        self.assertEqual(notes, {0: state_of({1: public(0, 9), 2: public(0, 1)}),
                                 3: state_of({1: public(0, 8, 5, 0), 2: public(0, 1)})})

    def test_jumps_to_the_next_place(self):
        _, notes = self.parts(("set", 1, 5), ("jump", 2), ("below", 1, 5, 3), HALT)
        self.assertEqual(notes, {0: START, 2: at(1, public(5, 5)), 3: at(1, public(5, 5))})

    def test_places_that_are_not_reached(self):
        """They have no notes, but they can name places that can have some."""
        code = (("set", 1, 3), ("set", 2, 5), ("add", 1, 1, 2), ("set", 2, 65535), HALT, ("jump", 3), ("set", 3, 8))
        _, notes = self.parts(*code, layout=())
        self.assertEqual(notes, {0: START, 3: state_of({1: public(5, 65535), 2: public(5, 5)})})
        # The 8 behind the `halt` is no number of the code file; one that can be reached is.
        _, notes = self.parts(*code[:4], ("below", 0, 1, 6), *code[5:], HALT, layout=())
        self.assertEqual(notes[3], state_of({1: public(8, 8), 2: public(5, 5)}))

    def test_reached_by_the_code_alone(self):
        """A place counts as reached behind each `below` and each `call`, whatever the registers have."""
        code = (("set", 1, 3), ("add", 1, 1, 1), ("below", 0, 1, 4), ("set", 2, 6), HALT)
        _, notes = self.parts(*code, layout=())
        self.assertEqual(notes[4], at(1, public(6, 6)))
        code = (("set", 1, 3), ("add", 1, 1, 1), ("call", 4), ("set", 2, 6), HALT)
        _, notes = self.parts(*code, layout=())
        self.assertEqual(notes[4], at(1, public(6, 6)))
        code = (("set", 1, 3), ("add", 1, 1, 1), ("jump", 4), ("set", 2, 6), HALT)
        _, notes = self.parts(*code, layout=())
        self.assertEqual(notes[4], at(1, public(3, 65535)))

    def test_numbers(self):
        """The `n` and `n - 1` of `below`, the words of `set`, and the `most` of regions."""
        code = (("set", 1, 100), ("load", 2, 0, 6), ("add", 1, 1, 2), ("below", 0, 139, 4), HALT)
        _, notes = self.parts(*code)
        self.assertEqual(notes[4][1:3], (public(100, 65535), public(0, 40, 6, 0)))
        code = (("set", 1, 100), ("load", 2, 0, 6), ("add", 1, 1, 2), ("below", 0, 140, 4), HALT)
        _, notes = self.parts(*code)
        self.assertEqual(notes[4][1], public(100, 140))
        code = (("set", 1, 100), ("load", 2, 0, 6), ("add", 1, 1, 2), ("below", 0, 142, 4), HALT)
        _, notes = self.parts(*code)
        self.assertEqual(notes[4][1], public(100, 141))
        code = (("set", 1, 10), ("load", 2, 0, 6), ("add", 1, 1, 2), ("below", 1, 0, 4), ("jump", 5), HALT)
        _, notes = self.parts(*code, layout=((6, 1, "secret", 40), (7, 1, "public", 51)))
        self.assertEqual(notes[5][1], ("secret", 10, 51, -1, 0))

    def test_loads_that_are_not_safe(self):
        code = (("load", 1, 0, 9), ("load", 2, 1, 0), ("jump", 3), HALT)
        _, notes = self.parts(*code)
        self.assertEqual(notes[3], state_of({1: SECRET, 2: SECRET}))

    def test_the_carry(self):
        code = (("load", 1, 0, 0), ("add", 2, 1, 1), ("below", 0, 1, 4), ("clear",), HALT)
        _, notes = self.parts(*code)
        self.assertEqual(notes[4], state_of({1: ("secret", 0, 65535, 0, 0), 2: SECRET}, "secret"))

    def test_loops_back_to_the_first_place(self):
        _, notes = self.parts(("set", 2, 1), ("add", 1, 1, 2), ("jump", 0), layout=())
        self.assertEqual(notes, {0: state_of({1: public(0, 65535), 2: public(0, 1)})})

    def test_behind_a_call(self):
        """The place behind a call has a note only if an instruction names it."""
        code = (("call", 4), ("set", 2, 1), ("below", 0, 0, 1), HALT, ("load", 1, 0, 4), RET)
        routines, notes = self.parts(*code)
        self.assertEqual(routines[4], (0, at(1, public(0, 9, 4, 0))))
        self.assertEqual(notes, {0: START, 1: at(1, public(0, 9, 4, 0)), 4: START})
        _, notes = self.parts(*code[:2], ("below", 0, 0, 0), *code[3:])
        self.assertEqual(sorted(notes), [0, 4])


class LeastTest(AnnotateCase):
    def test_random_codes(self):
        """Against a slow reading that goes through the code until nothing grows."""
        for seed in range(400):
            codes = Codes(seed)
            self.parts_of(codes.code_file(codes.random.randint(1, 14)))

    def test_random_codes_with_long_rows(self):
        for seed in range(60):
            codes = Codes(seed, STRAIGHT, registers=codes_registers(seed))
            layout, code = codes.code_file(codes.random.randint(30, 150))
            code = list(code)
            for _ in range(codes.random.randint(1, 3)):
                place = codes.random.randrange(len(code) - 1)
                code[place] = ("below", codes.reg(), 9, codes.random.randrange(len(code)))
            self.parts_of((layout, tuple(code)))

    def parts_of(self, code_file):
        return self.parts(*code_file[1], layout=code_file[0])

    def test_no_narrower_note(self):
        """Each note and each exit is asked for in all its parts."""
        for seed in range(60):
            codes = Codes(seed)
            code_file = codes.code_file(codes.random.randint(2, 10))
            (routines, notes), work = annotate(code_file), judging.Annotator(code_file)
            work.notes, work.exits = dict(notes), {first: leaving for first, _, leaving in routines}
            work.once()
            self.assertEqual((work.notes, work.exits),
                             (dict(notes), {first: leaving for first, _, leaving in routines}))
            for _, state in notes:
                for _, least, greatest, _, _ in state[:16]:
                    self.assertTrue({least, greatest} <= judging.numbers_of(code_file))


def codes_registers(seed):
    return (3, 8, 16)[seed % 3]


class LongCodesTest(unittest.TestCase):
    LAYOUT = tuple((16 * at, 16, ("public", "secret")[at % 2], at) for at in range(256))

    def annotated(self, code):
        code = tuple(code)
        code += (("clear",),) * (19999 - len(code)) + (HALT,)
        return annotate((self.LAYOUT, code))

    def test_long_rows(self):
        codes = Codes(9, STRAIGHT, registers=16)
        _, notes = self.annotated([codes.instruction(5, 9, 4095) for _ in range(19999)])
        self.assertEqual(notes, ((0, START),))

    def test_many_jumps(self):
        _, notes = self.annotated([("jump", place + 1) for place in range(19999)])
        self.assertEqual(notes, tuple((place, START) for place in range(20000)))

    def test_many_jumps_back(self):
        code = [("jump", 19998)] + [("jump", place - 1) for place in range(1, 19999)]
        _, notes = self.annotated(code)
        self.assertEqual(notes, tuple((place, START) for place in range(19999)))

    def test_many_loops(self):
        code = []
        for _ in range(4999):
            code += [("set", 1, 0), ("set", 2, 1), ("add", 1, 1, 2), ("below", 1, 9, len(code) + 2)]
        _, notes = self.annotated(code)
        self.assertEqual(len(notes), 5000)
        self.assertEqual(notes[-1][1], state_of({1: public(0, 8), 2: public(1, 1)}))

    def test_many_routines(self):
        code = []
        for at_place in range(0, 19990, 3):
            code += [("call", at_place + 3), ("add", 1, 1, 2), RET]
        routines, _ = self.annotated(code + [("set", 2, 1), RET])
        self.assertEqual(len(routines), 6665)
        self.assertEqual(routines[0][2][1], public(0, 65535))

    def test_many_callers(self):
        """Each one calls with another word in a register; the routine lies behind them, or before them."""
        calls = [("set", 1, number // 2) if number % 2 == 0 else ("call", 12001) for number in range(12000)]
        routines, notes = self.annotated(calls + [HALT, CLEAR, RET])
        self.assertEqual((len(routines), notes[-1]), (2, (12001, state_of({1: public(0, 5999)}))))
        calls = [one if one[0] == "set" else ("call", 1) for one in calls]
        routines, notes = self.annotated([("jump", 3), CLEAR, RET] + calls + [HALT])
        self.assertEqual(notes[1], (1, state_of({1: public(0, 5999)})))
        self.assertEqual(routines[1], (1, 16, state_of({1: public(0, 5999)})))

    def test_a_long_loop_with_many_numbers(self):
        code = [("set", 1, 0), ("set", 2, 1)] + [("load", 4, 0, 17)] * 19990 + [("add", 1, 1, 2), ("below", 1, 256, 2)]
        _, notes = self.annotated(code)
        self.assertEqual(notes[1][1][1], public(0, 255))


if __name__ == "__main__":
    unittest.main()
