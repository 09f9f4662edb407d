import random
import unittest

from quietsmith.errors import BadText
from quietsmith.layouts import is_code_file
from quietsmith.listing import code_text, parse_code
from tests.helpers import refusal
from tests.test_instructions import GREATEST

REGIONS = ((0, 4, "public", 9), (4, 2, "secret", 65535), (100, 3996, "public", 0))

# Lines that are none of the lines of point 312.
WRONG = (
    "", " ", "nop", "halt ", " halt", "halt 0", "Halt", "halt\t", "\thalt", "halt\r", "set", "set 1", "set 1 2 3",
    "set 1  2", "set  1 2", "set 1 2 ", " set 1 2", "set\t1 2", "set 1 07", "set 01 7", "set 1 00", "set 1 -0",
    "set 1 -1", "set 1 +1", "set 1 1.0", "set 1 1_0", "set 1 x", "set 1 0x1", "set 1 65536", "set 1 99999",
    "set 1 100000", "set 1 " + "9" * 5000, "set 1 " + "0" * 5000, "set 16 1", "set -1 1", "set 1,2", "set 1, 2",
    "set 1 \u0661", "set 1 \u00b2", "set \uff11 1", "set 1 \u0967", "\u00a0halt", "halt\u2028", "halt\x0b", "halt\x0c",
    "move 1 16", "add 1 2", "add 1 2 16", "down 1 2 16", "up 1 2 -1", "carry", "carry 16", "carry 1 1", "clear 1",
    "load 1 2 4096", "store 1 2 4096", "store 16 2 4095", "jump", "jump 20000", "jump -1", "below 1 2", "below 1 65536 3",
    "below 1 2 20000", "call 20000", "ret 1", "('halt',)", "halt;", "# halt", "None", "0", "region",
)
WRONG_REGIONS = (
    "region", "region 0", "region 0 1 public", "region 0 1 public 9 9", "region 0 1 9 public", "region 0 1 Public 9",
    "region 0 1 open 9", "region 00 1 public 9", "region 0 01 public 9", "region 0 1 public 09", "region -1 1 public 9",
    "region 4096 1 public 9", "region 0 0 public 9", "region 0 4097 public 9", "region 4095 2 public 9",
    "region 1 4096 public 9", "region 0 1 public 65536", "region 0 1 public -1", "region  0 1 public 9",
    "region 0 1 public 9 ", " region 0 1 public 9", "region 0 1  public 9", "region 0 1 \u0661 9", "regions 0 1 public 9",
    "Region 0 1 public 9", "region 0 1 'public' 9", "region 0 1 secret " + "1" * 5000,
)


class ListingTest(unittest.TestCase):
    def same(self, code_file, text):
        self.assertEqual(code_text(code_file), text)
        self.assertEqual(parse_code(text), code_file)
        self.assertIs(is_code_file(parse_code(text)), True)

    def refused(self, text, index):
        error = refusal(BadText, parse_code, text)
        self.assertIsNotNone(error, text if isinstance(text, str) and len(text) < 500 else "")
        self.assertEqual(error.index, index, text if isinstance(text, str) and len(text) < 500 else "")

    def test_examples(self):
        self.assertEqual(parse_code("region 4 2 public 9\nbelow 1 10 0\nhalt"),
                         (((4, 2, 'public', 9),), (('below', 1, 10, 0), ('halt',))))
        with self.assertRaises(BadText):
            parse_code("set 1 07")

    def test_each_name(self):
        for name, greatest in GREATEST.items():
            for numbers in (greatest, (0,) * len(greatest), tuple(n // 3 for n in greatest)):
                line = " ".join([name, *map(str, numbers)])
                self.same(((), ((name, *numbers),)), line)
                self.same((REGIONS[1:2], ((name, *numbers), ("halt",))), "region 4 2 secret 65535\n" + line + "\nhalt")

    def test_regions(self):
        text = "region 0 4 public 9\nregion 4 2 secret 65535\nregion 100 3996 public 0\nclear"
        self.same((REGIONS, (("clear",),)), text)
        self.same((((0, 4096, "secret", 1),), (("ret",),)), "region 0 4096 secret 1\nret")
        self.same((((4095, 1, "public", 1),), (("ret",),)), "region 4095 1 public 1\nret")

    def test_all_names_in_one_text(self):
        code = tuple((name, *greatest) for name, greatest in GREATEST.items())
        lines = [" ".join([name, *map(str, greatest)]) for name, greatest in GREATEST.items()]
        self.same(((), code), "\n".join(lines))

    def test_random_code(self):
        numbers = random.Random(9)
        for _ in range(50):
            names = numbers.choices(list(GREATEST), k=numbers.randint(1, 40))
            code = tuple((name, *(numbers.randint(0, most) for most in GREATEST[name])) for name in names)
            layout = tuple((at * 10, numbers.randint(1, 10), numbers.choice(("public", "secret")), numbers.randrange(65536))
                           for at in range(numbers.randint(0, 9)))
            self.assertEqual(parse_code(code_text((layout, code))), (layout, code))

    def test_wrong_lines(self):
        for wrong in WRONG + WRONG_REGIONS:
            self.refused(wrong, 0)
            self.refused(wrong + "\nhalt", 0)
            self.refused("clear\n" + wrong + "\nhalt", 6)
            self.refused("clear\nset 1 2\n" + wrong, 14)
            self.refused("region 0 1 public 9\n" + wrong + "\nhalt", 20)

    def test_two_wrong_lines(self):
        self.refused("halt\nnop\nhalt\nnop", 5)
        self.refused("halt\nnop\nset 1 07", 5)
        self.refused("nop\nnop", 0)
        self.refused("region 0 0 public 1\n\n", 0)
        self.refused("region 0 1 public 1\n\nnop", 20)

    def test_empty_lines(self):
        self.refused("", 0)
        self.refused("\n", 0)
        self.refused("\nhalt", 0)
        self.refused("halt\n", 5)
        self.refused("halt\n\n", 5)
        self.refused("halt\n\nhalt", 5)
        self.refused("region 0 1 public 1\n", 20)

    def test_regions_alone(self):
        for text in ("region 0 1 public 1", "region 0 1 public 1\nregion 1 1 public 1"):
            self.refused(text, len(text))

    def test_regions_behind_instructions(self):
        self.refused("halt\nregion 0 1 public 1", 5)
        self.refused("region 0 1 public 1\nhalt\nregion 1 1 public 1\nhalt", 25)

    def test_regions_that_overlap(self):
        first = "region 10 5 public 1\n"
        self.assertEqual(parse_code(first + "region 15 1 public 1\nhalt")[0][1], (15, 1, "public", 1))
        for line in ("region 14 1 public 1", "region 10 5 public 1", "region 0 10 public 1", "region 0 1 public 1",
                     "region 0 4096 public 1"):
            self.refused(first + line + "\nhalt", len(first))
            self.refused(first + line + "\nregion 0 1 public 1\nhalt", len(first))

    def test_regions_that_end_too_late(self):
        for line in ("region 4095 2 public 1", "region 1 4096 public 1", "region 4000 97 secret 1", "region 15 4082 public 1"):
            self.refused(line + "\nhalt", 0)
            self.refused("region 10 5 public 1\n" + line + "\nhalt", 21)
        self.assertEqual(parse_code("region 4000 96 secret 1\nhalt")[0], ((4000, 96, "secret", 1),))

    def test_numbers_of_regions(self):
        lines = [f"region {at} 1 secret {at}" for at in range(257)]
        text = "\n".join(lines[:256]) + "\nhalt"
        self.same((tuple((at, 1, "secret", at) for at in range(256)), (("halt",),)), text)
        self.refused("\n".join(lines) + "\nhalt", len("\n".join(lines[:256])) + 1)
        self.refused("\n".join(lines[:256] + ["nop"] + lines[256:]), len("\n".join(lines[:256])) + 1)

    def test_numbers_of_instructions(self):
        text = "\n".join(["ret"] * 20000)
        self.same(((), (("ret",),) * 20000), text)
        self.refused(text + "\nret", len(text) + 1)
        self.refused(text + "\nret\nnop", len(text) + 1)
        self.refused(text + "\nnop", len(text) + 1)
        self.refused(text + "\n", len(text) + 1)

    def test_other_values(self):
        for value in (None, 5, True, ["halt"], ("halt",), [], {}, ((), (("halt",),)), b"halt"):
            self.refused(value, 0)

    def test_other_newlines(self):
        for newline in ("\r\n", "\r", "\x0b", "\x0c", "\u2028", "\x1c", "\x85"):
            self.refused("halt" + newline + "halt", 0)

    def test_kinds_of_values(self):
        layout, code = parse_code("region 0 1 public 1\nset 1 0\nhalt")
        for value in (layout, code, *layout, *code):
            self.assertIs(type(value), tuple)
        self.assertIs(type(code[0][2]), int)
        self.assertIs(type(code_text((layout, code))), str)


if __name__ == "__main__":
    unittest.main()
