import unittest

from quietsmith.instructions import is_code, is_instruction, targets

# Each name of the table of point 303, with the greatest value of each of its numbers.
GREATEST = {
    "set": (15, 65535), "move": (15, 15), "add": (15, 15, 15), "addc": (15, 15, 15), "sub": (15, 15, 15),
    "subc": (15, 15, 15), "mul": (15, 15, 15), "high": (15, 15, 15), "div": (15, 15, 15), "and": (15, 15, 15),
    "or": (15, 15, 15), "xor": (15, 15, 15), "less": (15, 15, 15), "downby": (15, 15, 15),
    "down": (15, 15, 15), "up": (15, 15, 15), "carry": (15,), "clear": (), "load": (15, 15, 4095),
    "store": (15, 15, 4095), "jump": (19999,), "below": (15, 65535, 19999), "call": (19999,), "ret": (), "halt": (),
}
WRONG = (-1, -65536, 10 ** 30, True, False, None, "1", "r", "", [1], (1,), (), [], ["set"])


class InstructionsTest(unittest.TestCase):
    def right(self, value):
        self.assertIs(is_instruction(value), True, value)

    def wrong(self, value):
        self.assertIs(is_instruction(value), False, value)

    def test_each_name(self):
        self.assertEqual(len(GREATEST), 25)
        for name, greatest in GREATEST.items():
            self.right((name,) + greatest)
            self.right((name,) + (0,) * len(greatest))
            self.right((name,) + tuple(n // 2 for n in greatest))

    def test_each_number(self):
        for name, greatest in GREATEST.items():
            for at, most in enumerate(greatest):
                for other in (0, 1, 2, most - 1, most):
                    self.right((name,) + greatest[:at] + (other,) + greatest[at + 1:])
                for other in WRONG + (most + 1,):
                    self.wrong((name,) + greatest[:at] + (other,) + greatest[at + 1:])

    def test_too_many_or_too_few(self):
        for name, greatest in GREATEST.items():
            self.wrong((name,) + greatest + (0,))
            self.wrong((name,) + greatest + (None,))
            if greatest:
                self.wrong((name,) + greatest[:-1])
                self.wrong((name,) + greatest[1:] + (0, 0, 0, 0))

    def test_other_forms(self):
        for name, greatest in GREATEST.items():
            self.wrong([name, *greatest])
            self.wrong(((name,), *greatest))
            self.wrong(([name], *greatest))
            self.wrong((list(greatest), name))
            self.wrong(((name,) + greatest,))
            self.wrong((name, greatest))
            self.wrong((name, *[[n] for n in greatest], [0]))
            self.wrong((name.upper(), *greatest))
            self.wrong((name + " ", *greatest))
            self.wrong(greatest)

    def test_other_values(self):
        for value in ((), [], None, True, False, 0, 1, "", "halt", "clear", ("",), (None,), (True,), (0,), ((),), ([],),
                      ("nop",), ("sett", 1, 1), ("set",), ("int", 1), ("Halt",), ("halt", ()), ("region", 0, 1)):
            self.wrong(value)

    def test_codes(self):
        halt = ("halt",)
        for code in ((halt,), (halt,) * 2, (halt,) * 19999, (halt,) * 20000, (("jump", 19999), ("set", 3, 4))):
            self.assertIs(is_code(code), True)
        for code in ((), (halt,) * 20001, [halt], [], None, 1, True, "halt", halt, (halt, ["halt"]), (halt, ()),
                     (halt, ("set", 16, 0)), (("set", 0, -1), halt), (halt, None), (halt, 5), ((halt,),), (halt, "halt")):
            self.assertIs(is_code(code), False)

    def test_targets(self):
        for name, greatest in GREATEST.items():
            instruction = (name,) + greatest
            places = [greatest[-1]] if name in ("jump", "below", "call") else []
            found = targets(instruction)
            self.assertEqual(found, places, name)
            self.assertIs(type(found), list)
            found.append(5)
            self.assertEqual(targets(instruction), places)
            self.assertIsNot(targets(instruction), targets(instruction))

    def test_which_number_is_the_place(self):
        self.assertEqual(targets(("below", 1, 2, 3)), [3])
        self.assertEqual(targets(("jump", 0)), [0])
        self.assertEqual(targets(("call", 7)), [7])
        self.assertEqual(targets(("load", 1, 2, 3)), [])


if __name__ == "__main__":
    unittest.main()
