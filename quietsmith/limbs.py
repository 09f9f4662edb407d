"""Great numbers in words: rows of operations on them."""

from quietsmith.words import WORD, outcome

BITS = 16


def words_of(n):
    """Returns how many words a number takes, at least 1."""
    return max(1, (n.bit_length() + BITS - 1) // BITS)


def run_rows(rows, known):
    """Does the rows, and returns the words of all registers then."""
    words = dict(known)
    carry = 0
    for row in rows:
        if row[0] == "clear":
            carry = 0
        else:
            words[row[1]], carry = outcome(row, words, carry)
    return words


class Block:
    """Makes rows that set one new register after the other.

    A chain of carries always begins with a row that does not read the carry,
    so rows can stand behind any others.
    """

    def __init__(self, first):
        self.fresh = first
        self.made = []
        self.constants = {}

    def rows(self):
        """Returns the rows so far."""
        return list(self.made)

    def rows_from(self, start):
        """Returns the rows from the one with this index on."""
        return self.made[start:]

    def constant(self, n, count):
        """Returns a number of so many words with the value `n`."""
        return tuple([self.word((n >> (BITS * at)) % WORD) for at in range(count)])

    def add(self, a, b, count):
        """Returns the sum."""
        longest = min(count, max(len(a), len(b)))
        words = self.chain("add", a, b, longest)
        if count > longest:
            words.append(self.emit("carry"))
        return self.widened(words, count)

    def sub(self, a, b, count):
        """Returns the difference."""
        longest = min(count, max(len(a), len(b)))
        words = self.chain("sub", a, b, longest)
        if count > longest:
            words.extend([self.borrowed()] * (count - longest))
        return tuple(words)

    def mul(self, a, b, count):
        """Returns the product."""
        return self.columns(a, b, 0, count)

    def both(self, head, a, b):
        """Returns what `and`, `or` or `xor` makes of two numbers, bit by bit."""
        words = []
        for at in range(max(len(a), len(b))):
            if at < len(a) and at < len(b):
                words.append(self.emit(head, a[at], b[at]))
            elif head == "and":
                words.append(self.word(0))
            else:
                words.append(a[at] if at < len(a) else b[at])
        return tuple(words)

    def down(self, a, k, count):
        """Returns the number without its `k` lowest bits."""
        return tuple([self.window(a, BITS * at + k) for at in range(count)])

    def up(self, a, k, count):
        """Returns the number with `k` more bits below it."""
        return tuple([self.window(a, BITS * at - k) for at in range(count)])

    def low(self, a, k, count):
        """Returns the `k` lowest bits of the number."""
        words = []
        for at in range(count):
            bits = k - BITS * at
            if bits <= 0 or at >= len(a):
                words.append(self.word(0))
            elif bits >= BITS:
                words.append(a[at])
            else:
                words.append(self.emit("and", a[at], self.word((1 << bits) - 1)))
        return tuple(words)

    def less(self, a, b):
        """Returns a register with 1 if the first number is less than the second, otherwise 0."""
        self.chain("sub", a, b, max(len(a), len(b)))
        return self.emit("carry")

    def same(self, a, b):
        """Returns a register with 1 if the numbers are equal, otherwise 0."""
        return self.emit("less", self.merged(self.both("xor", a, b)), self.word(1))

    def bit(self, a, r):
        """Returns a register with the bit of the number that a register tells."""
        which = self.emit("down", r, 4)
        parts = []
        for at, word in enumerate(a):
            apart = which if at == 0 else self.emit("xor", which, self.word(at))
            parts.append(self.emit("mul", word, self.emit("less", apart, self.word(1))))
        moved = self.emit("downby", self.merged(parts), r)
        return self.emit("and", moved, self.word(1))

    def pick(self, r, a, b):
        """Returns the first number if the register has 1, and the second one if it has 0."""
        shared = min(len(a), len(b))
        mask = self.emit("sub", self.word(0), r)
        words = []
        for at in range(shared):
            apart = self.emit("and", self.emit("xor", a[at], b[at]), mask)
            words.append(self.emit("xor", apart, b[at]))
        words.extend([self.emit("and", word, mask) for word in a[shared:]])
        if len(b) > shared:
            other = self.emit("sub", r, self.word(1))
            words.extend([self.emit("and", word, other) for word in b[shared:]])
        return tuple(words)

    def addmod(self, a, b, m):
        """Returns the sum modulo `m`."""
        count = words_of(m - 1)
        if words_of(m) > count:
            return self.add(a, b, count)
        total = self.chain("add", a, b, count)
        above = self.emit("carry")
        modulus = self.constant(m, count)
        rest = self.chain("sub", total, modulus, count)
        # The sum was less than the modulus if this borrows from the word above, too.
        mask = self.emit("subc", above, self.word(0))
        return self.restored(rest, mask, modulus)

    def submod(self, a, b, m):
        """Returns the difference modulo `m`."""
        count = words_of(m - 1)
        if words_of(m) > count:
            return self.sub(a, b, count)
        rest = self.chain("sub", a, b, count)
        return self.restored(rest, self.borrowed(), self.constant(m, count))

    def mulmod(self, a, b, m):
        """Returns the product modulo `m`.

        The quotient is guessed by a product with `65536 ** (2 * n) // m`, of which the
        lowest columns are left out: the guess is never too great, and too small by at
        most 3, because what is left out is less than `n * 65536 ** n`.
        """
        n = words_of(m)
        product = self.mul(a[:n], b[:n], 2 * n)
        factor = self.constant((1 << (2 * BITS * n)) // m, n + 1)
        guess = self.columns(product[n - 1:], factor, n - 1, 2 * n + 2)[2:]
        taken = self.mul(guess, self.constant(m, n), n + 1)
        rest = self.sub(product[:n + 1], taken, n + 1)
        return self.reduced(self.reduced(rest, 2 * m, n + 1), m, n)

    def emit(self, head, *parts):
        """Appends a row, and returns the register that it sets."""
        fresh = self.fresh
        self.made.append((head, fresh, *parts))
        self.fresh += 1
        return fresh

    def word(self, n):
        """Returns a register with this word."""
        if n not in self.constants:
            self.constants[n] = self.emit("set", n)
        return self.constants[n]

    def word_at(self, a, at):
        """Returns the register with this word of a number."""
        return a[at] if at < len(a) else self.word(0)

    def widened(self, words, count):
        """Returns the number in exactly so many registers."""
        return tuple([self.word_at(words, at) for at in range(count)])

    def chain(self, head, a, b, count):
        """Returns the list of the words of a sum or a difference; the carry goes on behind it."""
        words = []
        for at in range(count):
            name = head if at == 0 else head + "c"
            words.append(self.emit(name, self.word_at(a, at), self.word_at(b, at)))
        return words

    def borrowed(self):
        """Returns a register with 65535 if the subtraction before borrowed, otherwise 0."""
        zero = self.word(0)
        return self.emit("subc", zero, zero)

    def merged(self, words):
        """Returns a register with all bits of the words."""
        total = words[0]
        for word in words[1:]:
            total = self.emit("or", total, word)
        return total

    def window(self, a, start):
        """Returns a register with the 16 bits from this one on; the number has no others than its own."""
        at, bits = divmod(start, BITS)
        parts = []
        if 0 <= at < len(a):
            parts.append(a[at] if bits == 0 else self.emit("down", a[at], bits))
        if bits > 0 and 0 <= at + 1 < len(a):
            parts.append(self.emit("up", a[at + 1], BITS - bits))
        return self.merged(parts) if len(parts) > 0 else self.word(0)

    def columns(self, a, b, first, count):
        """Returns the words of the product from the first one on; what comes up from below is left out."""
        total = []
        words = []
        for column in range(first, count):
            for at in range(max(0, column - len(b) + 1), min(len(a), column + 1)):
                total = self.accumulated(total, a[at], b[column - at], count - column)
            words.append(self.word_at(total, 0))
            total = total[1:]
        return tuple(words)

    def accumulated(self, total, x, y, room):
        """Returns the sum of a total of up to three words and a product, in as many as there is room for."""
        lower = self.emit("mul", x, y)
        if room == 1:
            return [lower if len(total) == 0 else self.emit("add", total[0], lower)]
        upper = self.emit("high", x, y)
        if len(total) == 0:
            return [lower, upper]
        words = [self.emit("add", total[0], lower), self.emit("addc", self.word_at(total, 1), upper)]
        # A total of one word and a product are less than 65536 ** 2 together.
        if room > 2 and len(total) == 3:
            words.append(self.emit("addc", total[2], self.word(0)))
        elif room > 2 and len(total) == 2:
            words.append(self.emit("carry"))
        return words

    def reduced(self, a, m, count):
        """Returns so many words of a number less than `2 * m`, modulo `m`."""
        modulus = self.constant(m, len(a))
        rest = self.chain("sub", a, modulus, len(a))
        return self.restored(rest[:count], self.borrowed(), modulus)

    def restored(self, words, mask, modulus):
        """Returns the words plus the modulus, if the mask is 65535, or plus 0, if it is 0."""
        masked = [self.emit("and", modulus[at], mask) for at in range(len(words))]
        return tuple(self.chain("add", words, masked, len(words)))
