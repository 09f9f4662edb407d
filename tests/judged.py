"""What the tests of the judge share."""

import unittest

from quietsmith.annotate import annotate
from quietsmith.errors import BadCode
from quietsmith.judge import check_code, judge, states_of
from tests import judging
from tests.helpers import refusal

LAYOUT = ((0, 4, "secret", 65535), (4, 2, "public", 9))
HALT = ("halt",)
RET = ("ret",)
CLEAR = ("clear",)
MAIN = (0, 16, None)


def public(least, greatest, cell=-1, plus=0):
    return ("public", least, greatest, cell, plus)


class JudgeCase(unittest.TestCase):
    def refused(self, place, reason, *code, layout=LAYOUT):
        """The code is refused with the certificate of annotate."""
        code_file = (layout, code)
        self.refused_by(judge, (place, reason), code_file)
        self.refused_by(judging.judge, (place, reason), code_file)
        self.refused_by(check_code, (place, reason), code_file, annotate(code_file))

    def refused_by(self, action, expected, *arguments):
        error = refusal(BadCode, action, *arguments)
        self.assertIsNotNone(error, arguments)
        self.assertEqual((error.index, error.reason), expected, arguments)

    def taken(self, bound, *code, layout=LAYOUT):
        """The code is taken with the certificate of annotate."""
        self.assertEqual(judge((layout, code)), bound)
        self.assertEqual(judging.judge((layout, code)), bound)

    def denied(self, place, reason, code, routines, notes, layout=LAYOUT):
        """The code is refused with this certificate."""
        certificate = (tuple(routines), tuple(notes))
        self.refused_by(check_code, (place, reason), (layout, tuple(code)), certificate)
        if reason != "loop":
            self.refused_by(states_of, (place, reason), (layout, tuple(code)), certificate)

    def granted(self, bound, code, routines, notes, layout=LAYOUT):
        """The code is taken with this certificate."""
        certificate = (tuple(routines), tuple(notes))
        self.assertEqual(check_code((layout, tuple(code)), certificate), bound)
