"""Runs compiled programs."""

from quietsmith.compiler import compile_program
from quietsmith.errors import BadInput, BadRun
from quietsmith.layouts import layout_end
from quietsmith.limbs import BITS, words_of
from quietsmith.machine import Machine
from quietsmith.values import are_values


def load(program, binary, values):
    """Returns the memory in which the inputs of a program have these values."""
    params = program[-1][1]
    if not are_values(params, values):
        raise BadInput()
    layout, _, inputs, _ = binary
    memory = [0] * layout_end(layout)
    for variable, value, start in zip(params, values, inputs):
        items = (value,) if variable[3] == 0 else value
        words = [word for item in items for word in split(item, words_of(variable[2]))]
        memory[start:start + len(words)] = words
    return memory


def outputs_of(program, binary, memory):
    """Returns the values that the outputs of a program have in a memory."""
    results = program[-1][2]
    outputs = binary[3]
    return tuple([value_at(variable, memory, start) for variable, start in zip(results, outputs)])


def value_at(variable, memory, start):
    """Returns the value of a variable whose words begin at this address."""
    _, _, most, size = variable
    width = words_of(most)
    if size == 0:
        return joined(memory[start:start + width])
    return tuple([joined(memory[start + at * width:start + (at + 1) * width]) for at in range(size)])


def split(number, count):
    """Returns the list of the words of a number, the lowest one first."""
    return [(number >> (BITS * at)) & ((1 << BITS) - 1) for at in range(count)]


def joined(words):
    """Returns the number that has these words."""
    return sum([word << (BITS * at) for at, word in enumerate(words)])


def run_compiled(program, values, limit):
    """Compiles a program and runs it, and returns its outputs, its steps and its cycles."""
    binary = compile_program(program)
    machine = Machine(binary[:2], load(program, binary, values))
    steps = machine.run(limit)
    if not machine.ended():
        raise BadRun("limit")
    return (outputs_of(program, binary, machine.memory()), steps, machine.cycles())
