import random
import unittest

from quietsmith.words import combine

WORDS = (0, 1, 2, 255, 256, 32767, 32768, 65534, 65535)
STAYS = ("mul", "high", "div", "and", "or", "xor", "less", "down", "up", "downby")


def expected(name, a, b, c):
    """The word and the new carry, as the table of point 305 writes them."""
    sums = {"add": a + b, "addc": a + b + c, "sub": a - b, "subc": a - b - c}
    if name in sums:
        return sums[name] % 65536, int(sums[name] >= 65536 or sums[name] < 0)
    words = {
        "mul": a * b % 65536,
        "high": a * b // 65536,
        "div": a // b if b else 65535,
        "and": a & b,
        "or": a | b,
        "xor": a ^ b,
        "less": int(a < b),
        "down": a // 2 ** min(b, 16),
        "up": a * 2 ** min(b, 16) % 65536,
        "downby": a // 2 ** (b % 16),
    }
    return words[name], c


class WordsTest(unittest.TestCase):
    def same(self, name, a, b, c, pair):
        got = combine(name, a, b, c)
        self.assertEqual(got, pair, (name, a, b, c))
        self.assertIsInstance(got, tuple)
        for number in got:
            self.assertIs(type(number), int)

    def test_examples(self):
        self.same("subc", 5, 5, 1, (65535, 1))
        self.same("downby", 40, 19, 1, (5, 1))

    def test_sums(self):
        for c in (0, 1):
            self.same("add", 65535, 0, c, (65535, 0))
            self.same("add", 65535, 1, c, (0, 1))
            self.same("add", 32768, 32767, c, (65535, 0))
            self.same("add", 32768, 32768, c, (0, 1))
            self.same("add", 65535, 65535, c, (65534, 1))
        self.same("addc", 65534, 1, 0, (65535, 0))
        self.same("addc", 65534, 1, 1, (0, 1))
        self.same("addc", 65535, 65535, 1, (65535, 1))
        self.same("addc", 0, 0, 1, (1, 0))

    def test_differences(self):
        for c in (0, 1):
            self.same("sub", 5, 5, c, (0, 0))
            self.same("sub", 0, 1, c, (65535, 1))
            self.same("sub", 0, 65535, c, (1, 1))
            self.same("sub", 65535, 0, c, (65535, 0))
        self.same("subc", 5, 4, 1, (0, 0))
        self.same("subc", 5, 5, 0, (0, 0))
        self.same("subc", 0, 65535, 1, (0, 1))
        self.same("subc", 0, 0, 1, (65535, 1))

    def test_products(self):
        for c in (0, 1):
            self.same("mul", 65535, 65535, c, (1, c))
            self.same("high", 65535, 65535, c, (65534, c))
            self.same("mul", 32768, 2, c, (0, c))
            self.same("high", 32768, 2, c, (1, c))
            self.same("high", 255, 256, c, (0, c))

    def test_quotients(self):
        for c in (0, 1):
            self.same("div", 65535, 0, c, (65535, c))
            self.same("div", 0, 0, c, (65535, c))
            self.same("div", 65535, 1, c, (65535, c))
            self.same("div", 65534, 65535, c, (0, c))
            self.same("div", 65535, 2, c, (32767, c))
            self.same("div", 7, 7, c, (1, c))

    def test_less(self):
        for c in (0, 1):
            self.same("less", 7, 7, c, (0, c))
            self.same("less", 6, 7, c, (1, c))
            self.same("less", 7, 6, c, (0, c))
            self.same("less", 0, 65535, c, (1, c))

    def test_shifts(self):
        for c in (0, 1):
            self.same("down", 65535, 0, c, (65535, c))
            self.same("down", 65535, 15, c, (1, c))
            self.same("up", 65535, 0, c, (65535, c))
            self.same("up", 65535, 15, c, (32768, c))
            self.same("downby", 65535, 15, c, (1, c))
            self.same("downby", 65535, 16, c, (65535, c))
            self.same("downby", 65535, 17, c, (32767, c))
            self.same("downby", 65535, 65535, c, (1, c))
            self.same("downby", 65535, 0, c, (65535, c))

    def test_each_name(self):
        for name in ("add", "addc", "sub", "subc") + STAYS:
            for a in WORDS:
                for b in range(16) if name in ("down", "up") else WORDS:
                    for c in (0, 1):
                        self.same(name, a, b, c, expected(name, a, b, c))

    def test_random_words(self):
        numbers = random.Random(5)
        for name in ("add", "addc", "sub", "subc") + STAYS:
            for _ in range(200):
                a, b, c = numbers.randrange(65536), numbers.randrange(65536), numbers.randrange(2)
                if name in ("down", "up"):
                    b %= 16
                self.same(name, a, b, c, expected(name, a, b, c))


if __name__ == "__main__":
    unittest.main()
