import random
import unittest

from quietsmith.instructions import NUMBERS
from quietsmith.limbs import Block, run_rows, words_of
from quietsmith.words import combine

KINDS = ("set", "add", "addc", "sub", "subc", "mul", "high", "and", "or", "xor", "down", "up", "downby", "less",
         "carry", "clear")
FIRST = 1000
EDGES = (0, 1, 2, 65534, 65535, 32768, 32767, 256)


def split(n, count):
    return [(n >> (16 * at)) & 65535 for at in range(count)]


def number_of(words):
    return sum(word << (16 * at) for at, word in enumerate(words))


def read_by(row):
    """The registers that a row reads."""
    if row[0] in ("set", "carry", "clear"):
        return ()
    return row[2:3] if row[0] in ("down", "up") else row[2:]


def samples(count, numbers):
    """Numbers of so many words: the least, the greatest, some with long runs of carries, and others."""
    top = 65536 ** count
    yield from (0, 1, top - 1, top - 2, top // 2, top // 2 - 1, 65535 * (top // 65536))
    for _ in range(4):
        yield number_of([numbers.choice(EDGES) for _ in range(count)])
        yield numbers.randrange(top)


class LimbsTest(unittest.TestCase):
    def setUp(self):
        self.numbers = random.Random(4)

    def made(self, method, *parts, first=FIRST):
        """A new block with the rows of one method, the registers of its numbers, and what it returned."""
        block = Block(first)
        registers = []
        free = 0
        passed = []
        for kind, value in parts:
            if kind == "words":
                passed.append(tuple(range(free, free + value)))
                free += value
                registers.append(passed[-1])
            elif kind == "register":
                passed.append(free)
                registers.append((free,))
                free += 1
            else:
                passed.append(value)
        return block, registers, getattr(block, method)(*passed)

    def check_rows(self, block, known, first=FIRST):
        """The rows are of the kinds of point 400, set one new register each, and read what is there."""
        known = dict(known)
        for at, row in enumerate(block.rows()):
            self.assertIn(row[0], KINDS)
            self.assertEqual(len(row), len(NUMBERS[row[0]]) + 1)
            for register in read_by(row):
                self.assertIn(register, known)
            self.assertEqual(row[1], first + at)
            self.assertNotIn(row[1], known)
            if row[0] == "set":
                self.assertIn(row[2], range(65536))
            if row[0] in ("down", "up"):
                self.assertIn(row[3], range(16))
            known[row[1]] = 0

    def outcome(self, made, values):
        """The number, or the word of the register, that the rows give for these values."""
        block, registers, answer = made
        known = {}
        for places, value in zip(registers, values):
            known.update(zip(places, split(value, len(places))))
        before = dict(known)
        words = run_rows(block.rows(), known)
        self.assertEqual(known, before)
        self.check_rows(block, known)
        for place in known:
            self.assertEqual(words[place], known[place])
        self.assertEqual(len(words), len(known) + len(block.rows()))
        if isinstance(answer, int):
            return words[answer]
        self.assertIs(type(answer), tuple)
        return number_of([words[place] for place in answer])

    def two(self, method, la, lb, expected, *more, length=None):
        """A method of two numbers of these lengths, for many values."""
        made = self.made(method, ("words", la), ("words", lb), *[("plain", one) for one in more])
        if length is not None:
            self.assertEqual(len(made[2]), length)
        for a in samples(la, self.numbers):
            for b in samples(lb, self.numbers):
                self.assertEqual(self.outcome(made, (a, b)), expected(a, b), (method, la, lb, more, a, b))

    def test_example(self):
        block = Block(10)
        r = block.add((0, 1), (2,), 2)
        known = run_rows(block.rows(), {0: 65535, 1: 3, 2: 1})
        self.assertEqual([known[k] for k in r], [0, 4])

    def test_words_of(self):
        for n, count in ((0, 1), (1, 1), (65535, 1), (65536, 2), (65537, 2), (2 ** 32 - 1, 2), (2 ** 32, 3),
                         (2 ** 32 + 1, 3), (2 ** 256 - 1, 16), (2 ** 256, 17), (2 ** 255, 16), (2 ** 240, 16),
                         (2 ** 240 - 1, 15), (2 ** 1600, 101), (2 ** 1600 - 1, 100)):
            self.assertEqual(words_of(n), count)

    def test_run_rows(self):
        numbers = self.numbers
        self.assertEqual(run_rows([], {}), {})
        self.assertEqual(run_rows([("carry", 5)], {}), {5: 0})
        self.assertEqual(run_rows([("set", 70000, 9), ("set", 0, 65535), ("add", 1, 0, 70000), ("addc", 2, 1, 1),
                                   ("add", 3, 0, 0), ("clear",), ("carry", 4), ("set", 0, 2)], {}),
                         {70000: 9, 0: 2, 1: 8, 2: 17, 3: 65534, 4: 0})
        for name in ("add", "addc", "sub", "subc", "mul", "high", "and", "or", "xor", "less", "downby"):
            for _ in range(40):
                a, b = numbers.choice(EDGES + (numbers.randrange(65536),)), numbers.choice(EDGES + (numbers.randrange(65536),))
                for carry in (0, 1):
                    rows = [("add", 9, 7, 8), (name, 3, 1, 2), ("carry", 4)]
                    word, after = combine(name, a, b, carry)
                    known = {1: a, 2: b, 7: 65535, 8: carry}
                    self.assertEqual(run_rows(rows, known), {
                        1: a, 2: b, 7: 65535, 8: carry, 9: 65535 + carry & 65535, 3: word, 4: after})
        for name in ("down", "up"):
            for k in range(16):
                self.assertEqual(run_rows([(name, 3, 1, k)], {1: 43981}), {1: 43981, 3: combine(name, 43981, k, 0)[0]})

    def test_run_rows_keeps_nothing(self):
        known = {1: 5, 2: 6}
        rows = [("add", 1, 1, 2)]
        words = run_rows(rows, known)
        self.assertEqual((words, known, rows), ({1: 11, 2: 6}, {1: 5, 2: 6}, [("add", 1, 1, 2)]))
        self.assertIsNot(run_rows([], known), known)
        words[2] = 0
        self.assertEqual(known, {1: 5, 2: 6})

    def test_constant(self):
        for count in (1, 2, 3, 16):
            for n in (0, 1, 65535, 65536 ** count - 1, 65536 ** (count - 1), 12345):
                made = self.made("constant", ("plain", n), ("plain", count))
                self.assertEqual(len(made[2]), count)
                self.assertEqual(self.outcome(made, ()), n)

    def test_add_and_sub(self):
        for la, lb in ((1, 1), (2, 1), (1, 2), (3, 3), (1, 4), (4, 1), (5, 3)):
            for count in (1, 2, 3, 4, 5, 6, 9):
                top = 65536 ** count
                self.two("add", la, lb, lambda a, b: (a + b) % top, count, length=count)
                self.two("sub", la, lb, lambda a, b: (a - b) % top, count, length=count)

    def test_mul(self):
        for la, lb in ((1, 1), (2, 1), (1, 2), (2, 2), (3, 2), (1, 5), (4, 4)):
            for count in (1, 2, 3, 4, 5, 8, 9, 11):
                top = 65536 ** count
                self.two("mul", la, lb, lambda a, b: a * b % top, count, length=count)
        self.two("mul", 16, 16, lambda a, b: a * b, 32, length=32)
        self.two("mul", 20, 3, lambda a, b: a * b % 65536 ** 22, 22, length=22)

    def test_both(self):
        for la, lb in ((1, 1), (2, 2), (1, 3), (3, 1), (16, 15)):
            for head, operation in (("and", int.__and__), ("or", int.__or__), ("xor", int.__xor__)):
                made = self.made("both", ("plain", head), ("words", la), ("words", lb))
                self.assertEqual(len(made[2]), max(la, lb))
                for a in samples(la, self.numbers):
                    for b in samples(lb, self.numbers):
                        self.assertEqual(self.outcome(made, (a, b)), operation(a, b))

    def test_shifts(self):
        for la in (1, 2, 3, 16):
            for k in (0, 1, 7, 15, 16, 17, 31, 32, 33, 47, 48, 100, 255, 256, 257, 1000):
                for count in (1, 2, 3, 5, 16, 17):
                    top = 65536 ** count
                    down = self.made("down", ("words", la), ("plain", k), ("plain", count))
                    up = self.made("up", ("words", la), ("plain", k), ("plain", count))
                    low = self.made("low", ("words", la), ("plain", k), ("plain", count))
                    for made in (down, up, low):
                        self.assertEqual(len(made[2]), count)
                    for a in list(samples(la, self.numbers))[2::3]:
                        self.assertEqual(self.outcome(down, (a,)), (a >> k) % top, (la, k, count, a))
                        self.assertEqual(self.outcome(up, (a,)), (a << k) % top, (la, k, count, a))
                        self.assertEqual(self.outcome(low, (a,)), a % (1 << k) % top, (la, k, count, a))

    def test_less_and_same(self):
        for la, lb in ((1, 1), (2, 2), (1, 3), (3, 1), (5, 4), (16, 16)):
            self.two("less", la, lb, lambda a, b: int(a < b))
            self.two("same", la, lb, lambda a, b: int(a == b))
            same = self.made("same", ("words", la), ("words", lb))
            less = self.made("less", ("words", la), ("words", lb))
            self.assertIs(type(same[2]), int)
            for a in samples(min(la, lb), self.numbers):
                self.assertEqual(self.outcome(same, (a, a)), 1)
                self.assertEqual(self.outcome(less, (a, a)), 0)
                # Numbers that differ in a single bit.
                for bit in range(16 * min(la, lb)):
                    other = a ^ (1 << bit)
                    self.assertEqual(self.outcome(same, (a, other)), 0)
                    self.assertEqual(self.outcome(less, (a, other)), int(a < other))

    def test_bit(self):
        for la in (1, 2, 3, 16, 20):
            made = self.made("bit", ("words", la), ("register", None))
            self.assertIs(type(made[2]), int)
            for a in list(samples(la, self.numbers))[1::2]:
                for at in (0, 1, 15, 16, 17, 16 * la - 1, 16 * la, 16 * la + 1, 255, 256, 4095, 32768, 65535,
                           self.numbers.randrange(16 * la)):
                    self.assertEqual(self.outcome(made, (a, at)), a >> at & 1, (la, a, at))

    def test_pick(self):
        for la, lb in ((1, 1), (2, 2), (1, 3), (3, 1), (16, 16)):
            made = self.made("pick", ("register", None), ("words", la), ("words", lb))
            self.assertEqual(len(made[2]), max(la, lb))
            for a in samples(la, self.numbers):
                for b in samples(lb, self.numbers):
                    self.assertEqual(self.outcome(made, (1, a, b)), a)
                    self.assertEqual(self.outcome(made, (0, a, b)), b)

    def test_the_same_registers_twice(self):
        """A number and a register can be passed in several places at once."""
        for a in (0, 1, 65535, 65536, 2 ** 48 - 1, 123456789012):
            block = Block(3)
            r = (0, 1, 2)
            known = dict(zip(r, split(a, 3)))
            rows = {
                "add": (block.add(r, r, 4), 2 * a), "sub": (block.sub(r, r, 4), 0), "mul": (block.mul(r, r, 6), a * a),
                "xor": (block.both("xor", r, r), 0), "pick": (block.pick(block.same(r, r), r, r), a),
                "mulmod": (block.mulmod(r, r, 2 ** 48 + 1), a * a % (2 ** 48 + 1)),
                "addmod": (block.addmod(r, r, 2 ** 48), 2 * a % 2 ** 48),
                "submod": (block.submod(r, r, 2 ** 48), 0),
            }
            words = run_rows(block.rows(), known)
            for name, (answer, expected) in rows.items():
                self.assertEqual(number_of([words[place] for place in answer]), expected, name)

    def moduli(self):
        """Moduli that are even and odd, small and great, next to powers of two."""
        yield from range(2, 20)
        for bits in (8, 15, 16, 17, 31, 32, 33, 48, 64, 127, 128, 240, 255, 256):
            for more in (-3, -2, -1, 0, 1, 2, 3):
                yield (1 << bits) + more
        yield from (65536 ** 2 + 65535, 65536 ** 3 - 65536 ** 2 + 1, 2 ** 255 - 19, 2 ** 256 - 189, 65535 * 65536 ** 3 + 1)

    def test_moduli(self):
        for m in self.moduli():
            count = words_of(m - 1)
            values = [0, 1, m // 2, m - 2, m - 1, self.numbers.randrange(m), self.numbers.randrange(m)]
            for name, expected in (("addmod", lambda a, b: (a + b) % m), ("submod", lambda a, b: (a - b) % m),
                                   ("mulmod", lambda a, b: a * b % m)):
                if name == "mulmod" and m % 2 == 0:
                    continue
                made = self.made(name, ("words", count), ("words", count), ("plain", m))
                self.assertEqual(len(made[2]), count, (name, m))
                for a in values:
                    for b in values:
                        self.assertEqual(self.outcome(made, (a, b)), expected(a, b), (name, m, a, b))

    def test_moduli_and_lengths(self):
        """The numbers can have fewer or more words than the modulus."""
        for m in (3, 65537, 2 ** 64 - 59, 2 ** 65 - 49, 65536 ** 3 + 1):
            for la, lb in ((1, 1), (1, 6), (6, 1), (2, 7)):
                tops = [min(m, 65536 ** la), min(m, 65536 ** lb)]
                for name, expected in (("addmod", lambda a, b: (a + b) % m), ("submod", lambda a, b: (a - b) % m),
                                       ("mulmod", lambda a, b: a * b % m)):
                    made = self.made(name, ("words", la), ("words", lb), ("plain", m))
                    self.assertEqual(len(made[2]), words_of(m - 1))
                    for a in (0, 1, tops[0] - 1, self.numbers.randrange(tops[0])):
                        for b in (0, 1, tops[1] - 1, self.numbers.randrange(tops[1])):
                            self.assertEqual(self.outcome(made, (a, b)), expected(a, b), (name, m, a, b))

    def test_guesses_of_the_quotient(self):
        """Products next to multiples of the modulus, where a guess is most easily wrong."""
        for n in range(1, 17):
            for m in (65536 ** n - 1, 65536 ** (n - 1) + (1 if n % 2 or n == 2 else 3) + (2 if n == 1 else 0),
                      65536 ** n // 2 + 1, 65536 ** n // 2 - 1, self.numbers.randrange(65536 ** n // 65536 + 3, 65536 ** n) | 1):
                m |= 1
                count = words_of(m - 1)
                made = self.made("mulmod", ("words", count), ("words", count), ("plain", m))
                for _ in range(3):
                    a = self.numbers.randrange(1, m)
                    for b in (m // a, m // a + 1, m - a, (m * 3 // a), m - 1, (m - 1) // 2):
                        b %= m
                        self.assertEqual(self.outcome(made, (a, b)), a * b % m, (m, a, b))

    def test_numbers_of_rows_of_mulmod(self):
        for n in range(1, 17):
            for m in (65536 ** n - 1, 65536 ** (n - 1) + 3 - n % 2 * 1 | 1, 65536 ** n - 189, 65536 ** n // 2 + 1):
                m = max(3, m)
                self.assertEqual(words_of(m), n)
                for la in range(1, n + 1):
                    made = self.made("mulmod", ("words", la), ("words", n), ("plain", m))
                    self.assertLessEqual(len(made[0].rows()), 24 * n * n + 40 * n + 20, (n, la))

    def test_registers(self):
        """Each register is set once, beginning with the one that was told, over all methods together."""
        for first in (0, 7, 100, 10 ** 9):
            block = Block(first)
            known = (10 ** 10, 10 ** 10 + 1, 10 ** 10 + 2)
            a, b, r = known[:2], known[1:], known[0]
            returned = [
                block.constant(70000, 3), block.add(a, b, 3), block.sub(a, b, 3), block.mul(a, b, 3), block.both("or", a, b),
                block.down(a, 5, 2), block.up(a, 5, 2), block.low(a, 5, 2), block.less(a, b), block.same(a, b),
                block.bit(a, r), block.pick(r, a, b), block.addmod(a, b, 2 ** 32), block.submod(a, b, 2 ** 32 + 1),
                block.mulmod(a, b, 2 ** 32 + 1), block.constant(0, 1)]
            self.assertEqual([row[1] for row in block.rows()], list(range(first, first + len(block.rows()))))
            self.check_rows(block, dict.fromkeys(known), first)
            there = set(known) | {row[1] for row in block.rows()}
            for answer in returned:
                for register in (answer,) if isinstance(answer, int) else answer:
                    self.assertIn(register, there)

    def test_rows_depend_only_on_calls(self):
        def make():
            block = Block(50)
            block.less((0, 1), (2,))
            block.bit((0, 1), 2)
            block.mulmod((0,), (1, 2), 65537)
            block.pick(3, (0, 1), (2,))
            return block.rows()
        self.assertEqual(make(), make())

    def test_rows_so_far(self):
        block = Block(9)
        self.assertEqual(block.rows(), [])
        block.add((0,), (1,), 1)
        rows = block.rows()
        self.assertEqual(rows, [("add", 9, 0, 1)])
        rows.clear()
        block.less((0,), (1,))
        self.assertEqual(block.rows()[0], ("add", 9, 0, 1))
        self.assertGreater(len(block.rows()), 1)
        self.assertIs(type(block.rows()), list)
        self.assertTrue(all(type(row) is tuple for row in block.rows()))

    def test_after_a_carry(self):
        """No method takes over a carry that another one has left."""
        for carry in (0, 1):
            for name in ("add", "sub", "mul", "addmod", "submod", "mulmod"):
                block = Block(100)
                block.add((7,), (7,), 1)
                more = 2 ** 40 + 1 if name.endswith("mod") else 3
                answer = getattr(block, name)((0, 1, 2), (3, 4, 5), more)
                a, b = 2 ** 39 + 65535, 2 ** 38 + 12345
                known = dict(zip(range(6), split(a, 3) + split(b, 3)))
                known[7] = 32768 * carry
                expected = {"add": a + b, "sub": a - b, "mul": a * b, "addmod": (a + b) % more, "submod": (a - b) % more,
                            "mulmod": a * b % more}[name] % 65536 ** 3
                words = run_rows(block.rows(), known)
                self.assertEqual(number_of([words[place] for place in answer]), expected, name)


if __name__ == "__main__":
    unittest.main()
