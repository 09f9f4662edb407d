"""Certificates: what is said of a code, so that a judge need only look whether it is true."""

from quietsmith.facts import is_state
from quietsmith.values import is_integer

TOP_LEVEL = 16


def is_certificate(code_file, value):
    """Tells whether the value has the form of a certificate of the code file."""
    last = len(code_file[1]) - 1
    if not isinstance(value, tuple) or len(value) != 2:
        return False
    routines, notes = value
    return are_routines(routines, last) and are_notes(notes, last)


def are_routines(routines, last):
    """Tells whether the value has the form of the routines of a code with this last place."""
    if not isinstance(routines, tuple) or len(routines) == 0:
        return False
    least = 0
    for routine in routines:
        if not isinstance(routine, tuple) or len(routine) != 3:
            return False
        first, level, leaving = routine
        # The first routine begins at 0, and each other one behind the one before.
        if not is_integer(first, least, last if least > 0 else 0) or not is_integer(level, 0, TOP_LEVEL):
            return False
        if leaving is not None and not is_state(leaving):
            return False
        least = first + 1
    return True


def are_notes(notes, last):
    """Tells whether the value has the form of the notes of a code with this last place."""
    if not isinstance(notes, tuple):
        return False
    least = 0
    for note in notes:
        if not isinstance(note, tuple) or len(note) != 2:
            return False
        place, state = note
        if not is_integer(place, least, last) or not is_state(state):
            return False
        least = place + 1
    return True


def owners(firsts, size):
    """Returns for each place of a code of this size the first place of its routine."""
    found = []
    for first, end in zip(firsts, firsts[1:] + [size]):
        found.extend([first] * (end - first))
    return found
