"""Point 606: the form of certificates."""

import unittest

from quietsmith.annotate import annotate
from quietsmith.certificates import is_certificate
from tests.codes import START, WIDEST, Codes

CODE_FILE = ((), (("clear",),) * 9 + (("halt",),))
MAIN = (0, 1, None)
NOTE = (0, START)
# Values that are no place, no level and no state.
STRANGE = (True, False, "", "0", (), [], (0,), [0], {}, 0.5)
NO_STATES = (True, False, 0, "", (), [], list(START), START[1:], START + ("public",), (START[0],) * 17, (None,) * 17)


class CertificateTest(unittest.TestCase):
    def form(self, expected, *values, code_file=CODE_FILE):
        for value in values:
            self.assertIs(is_certificate(code_file, value), expected, value)

    def routines(self, expected, *routines):
        self.form(expected, (routines, (NOTE,)))

    def notes(self, expected, *notes):
        self.form(expected, ((MAIN,), notes))

    def test_right_ones(self):
        self.form(True, ((MAIN,), (NOTE,)), ((MAIN,), ()), (((0, 0, START),), ((5, WIDEST),)))

    def test_first_places(self):
        self.routines(True, MAIN, (1, 0, None), (2, 0, None))
        self.routines(True, MAIN, (9, 0, None))
        self.routines(True, MAIN, (3, 0, None), (8, 0, None), (9, 0, None))
        self.routines(False, MAIN, (10, 0, None))
        self.routines(False, MAIN, (0, 0, None))
        self.routines(False, MAIN, (3, 0, None), (3, 0, None))
        self.routines(False, MAIN, (4, 0, None), (3, 0, None))
        self.routines(False, MAIN, (-1, 0, None))
        self.routines(False, (1, 0, None))
        self.routines(False, (-1, 0, None))
        self.routines(False, (3, 0, None), MAIN)
        self.routines(False)

    def test_levels(self):
        for level in (0, 1, 15, 16):
            self.routines(True, (0, level, None))
            self.routines(True, MAIN, (1, level, None))
        for level in (-1, 17):
            self.routines(False, (0, level, None))
            self.routines(False, MAIN, (1, level, None))

    def test_exits(self):
        for leaving in (None, START, WIDEST):
            self.routines(True, (0, 0, leaving))
            self.routines(True, MAIN, (4, 0, leaving))
        for leaving in NO_STATES:
            self.routines(False, (0, 0, leaving))
            self.routines(False, MAIN, (4, 0, leaving))

    def test_routines_of_another_form(self):
        for strange in STRANGE:
            self.routines(False, (strange, 0, None))
            self.routines(False, MAIN, (strange, 0, None))
            self.routines(False, (0, strange, None))
            self.routines(False, MAIN, (1, strange, None))
        for routine in (MAIN[:2], MAIN + (0,), list(MAIN), (), None, 0, "abc", True):
            self.routines(False, routine)
            self.routines(False, MAIN, routine)
        self.form(False, ([MAIN], (NOTE,)), (None, (NOTE,)), ("", (NOTE,)), (MAIN, (NOTE,)), (0, (NOTE,)))

    def test_places_of_notes(self):
        self.notes(True, (0, START), (1, START), (9, START))
        self.notes(True, (9, START))
        self.notes(False, (10, START))
        self.notes(False, (-1, START))
        self.notes(False, (3, START), (3, START))
        self.notes(False, (3, START), (3, WIDEST))
        self.notes(False, (4, START), (3, START))
        self.notes(True, (3, START), (4, START))

    def test_notes_of_another_form(self):
        for strange in STRANGE + (None,):
            self.notes(False, (strange, START))
            self.notes(False, NOTE, (strange, START))
        for state in NO_STATES + (None,):
            self.notes(False, (0, state))
            self.notes(False, NOTE, (1, state))
        for note in (NOTE + (0,), (0,), list(NOTE), (), None, 0, True, "ab"):
            self.notes(False, note)
            self.notes(False, NOTE, note)
        self.form(False, ((MAIN,), [NOTE]), ((MAIN,), None), ((MAIN,), ""), ((MAIN,), NOTE), ((MAIN,), 0))

    def test_other_values(self):
        right = ((MAIN,), (NOTE,))
        self.form(False, list(right), right[:1], right + ((),), (), None, True, 0, "", "ab", START, [right])

    def test_the_length_of_the_code(self):
        short = ((), (("halt",),))
        self.form(True, ((MAIN,), (NOTE,)), code_file=short)
        self.form(False, ((MAIN, (1, 0, None)), (NOTE,)), ((MAIN,), (NOTE, (1, START))), code_file=short)
        long = ((), (("clear",),) * 20000)
        self.form(True, ((MAIN, (19999, 0, None)), ((19999, START),)), code_file=long)
        self.form(False, ((MAIN, (20000, 0, None)), (NOTE,)), ((MAIN,), ((20000, START),)), code_file=long)

    def test_those_that_are_made(self):
        codes = Codes(6)
        for _ in range(100):
            code_file = codes.code_file(codes.random.randint(1, 12))
            certificate = annotate(code_file)
            self.form(True, certificate, codes.other_certificate(certificate, len(code_file[1])), code_file=code_file)


if __name__ == "__main__":
    unittest.main()
