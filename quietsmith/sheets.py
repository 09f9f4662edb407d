"""Rows for the expressions of a statement.

A sheet has the rows of a `Block`, which are those of point 400, and between them these rows,
which only the sheet makes and only the allocation understands:

- `("mask", a, b)` and `("scale", a)` make a place in an array: the `and` of two registers,
  and its product with another one.
- `("take", r, address)` gives a register the word at the address plus this place.
- `("hold", a)` makes sure that a register has its word, before its address gets another one.
- `("give", a, address)` and `("aim", a, address)` store a register at the address, or at
  the address plus the place in the array.
- `("test", a, label)` goes to the label if the register has 0.
"""

from quietsmith.expressions import MODULAR, greatest_of, mask, number_of, operands
from quietsmith.limbs import Block, words_of

# The registers below this one have the words of variables, and those from it on are set by the block.
FIRST_ROW = 10000


class Sheet:
    """The rows of a statement over known variables, which are spots by their names."""

    def __init__(self, plan, known):
        self.plan = plan
        self.known = known
        self.block = Block(FIRST_ROW)
        self.copied = 0
        self.listed = []
        self.homes = {}
        self.residents = {}
        self.fresh = 0

    def all_rows(self):
        """Returns the rows so far."""
        self.catch_up()
        return list(self.listed)

    def catch_up(self):
        """Takes over what the block has made meanwhile."""
        made = self.block.rows_from(self.copied)
        self.listed.extend(made)
        self.copied += len(made)

    def note(self, row):
        """Appends a row that is not one of the block."""
        self.catch_up()
        self.listed.append(row)

    def new_word(self):
        """Returns a new register for a word of a variable."""
        self.fresh += 1
        return self.fresh - 1

    def word_of(self, address):
        """Returns the register of the word at an address."""
        if address not in self.residents:
            fresh = self.new_word()
            self.residents[address] = fresh
            self.homes[fresh] = address
        return self.residents[address]

    def stored(self, spot, item):
        """Returns the number that an item of a variable has."""
        return tuple([self.word_of(spot.address(item, at)) for at in range(spot.width)])

    def point(self, spot, at):
        """Makes the place of the item whose index a register has."""
        top = mask((spot.size - 1).bit_length())
        # The mask keeps the address in the region, whatever is known of the index.
        self.plan.reach(spot.space, spot.start + (top + 1) * spot.width)
        self.note(("mask", at, self.block.word(top)))
        if spot.width > 1:
            self.note(("scale", self.block.word(spot.width)))

    def item(self, spot, index):
        """Returns the number that the item with this index has."""
        if index[0] == "int":
            return self.stored(spot, index[1])
        place, _ = self.evaluate(index)
        self.point(spot, place[0])
        words = []
        for at in range(spot.width):
            fresh = self.new_word()
            self.note(("take", fresh, spot.address(0, at)))
            words.append(fresh)
        return tuple(words)

    def evaluate(self, expression):
        """Returns the number that an expression has, and its greatest value."""
        head = expression[0]
        if head == "int":
            return (self.block.constant(expression[1], words_of(expression[1])), expression[1])
        if head == "name":
            spot = self.known[expression[1]]
            return (self.stored(spot, 0), spot.most)
        if head == "item":
            spot = self.known[expression[1]]
            return (self.item(spot, expression[2]), spot.most)
        if head == "bit" and expression[2][0] == "int":
            parts = [self.evaluate(expression[1])]
            number = expression[2][1]
        else:
            parts = [self.evaluate(operand) for operand in operands(expression)]
            number = number_of(expression)
        most = greatest_of(head, [greatest for _, greatest in parts], number)
        count = words_of(most)
        words = operate(self.block, head, [part for part, _ in parts], number, count)
        return (words[:count], most)

    def store(self, spot, item, words):
        """Stores a number in an item of a variable."""
        moves = [(self.block.word_at(words, at), spot.address(item, at)) for at in range(spot.width)]
        # What is there already is not stored once more.
        moves = [(word, address) for word, address in moves if self.homes.get(word) != address]
        self.hold(spot, [word for word, _ in moves])
        for word, address in moves:
            self.note(("give", word, address))

    def store_at(self, spot, index, words):
        """Stores a number in the item with this index."""
        place, _ = self.evaluate(index)
        moved = [self.block.word_at(words, at) for at in range(spot.width)]
        self.hold(spot, moved)
        self.point(spot, place[0])
        for at, word in enumerate(moved):
            self.note(("aim", word, spot.address(0, at)))

    def hold(self, spot, words):
        """Keeps those of the words that are read from the variable that will be stored."""
        inside = [word for word in words if word in self.homes and spot.has(self.homes[word])]
        for word in sorted(set(inside)):
            self.note(("hold", word))

    def test(self, words, label):
        """Goes to the label if a number is 0."""
        self.note(("test", self.block.merged(words), label))


def operate(block, head, numbers, number, count):
    """Returns the number that an operation makes of other ones, perhaps with more words than `count`."""
    first = numbers[0]
    if head == "down":
        return block.down(first, number, count)
    if head == "up":
        return block.up(first, number, count)
    if head == "low":
        return block.low(first, number, count)
    if head == "pick":
        return block.pick(first[0], numbers[1], numbers[2])
    if head == "bit":
        if len(numbers) == 1:
            return block.low(block.down(first, number, 1), 1, 1)
        return (block.bit(first, numbers[1][0]),)
    second = numbers[1]
    if head == "sub":
        return block.low(block.sub(first, second, count), number + 1, count)
    if head in MODULAR:
        return modular(block, head, first, second, number)
    return of_two(block, head, first, second, count)


def modular(block, head, a, b, modulus):
    """Returns the sum, the difference or the product of two numbers modulo another one."""
    if head == "addmod":
        return block.addmod(a, b, modulus)
    if head == "submod":
        return block.submod(a, b, modulus)
    return block.mulmod(a, b, modulus)


def of_two(block, head, a, b, count):
    """Returns what an operation without a number of its own makes of two numbers."""
    if head == "add":
        return block.add(a, b, count)
    if head == "mul":
        return block.mul(a, b, count)
    if head == "less":
        return (block.less(a, b),)
    if head == "same":
        return (block.same(a, b),)
    return block.both(head, a, b)
