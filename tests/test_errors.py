import unittest

from quietsmith.errors import (
    BadCode, BadInput, BadProgram, BadRun, BadScript, BadText, QuietError,
)

CLASSES = (BadProgram, BadText, BadInput, BadCode, BadRun, BadScript)


class ErrorsTest(unittest.TestCase):
    def test_top(self):
        self.assertEqual(QuietError.__bases__, (ValueError,))

    def test_direct_subclasses(self):
        for kind in CLASSES:
            self.assertEqual(kind.__bases__, (QuietError,))

    def test_none_under_another(self):
        for kind in CLASSES:
            for other in CLASSES:
                self.assertEqual(issubclass(kind, other), kind is other)

    def test_attributes(self):
        self.assertEqual(BadProgram("shape").reason, "shape")
        self.assertEqual(BadText(17).index, 17)
        self.assertEqual(BadRun("limit").reason, "limit")
        code = BadCode(3, "flow")
        self.assertEqual((code.index, code.reason), (3, "flow"))
        script = BadScript(5, "words")
        self.assertEqual((script.line, script.reason), (5, "words"))

    def test_keywords(self):
        self.assertEqual(BadProgram(reason="a").reason, "a")
        self.assertEqual(BadText(index=1).index, 1)
        self.assertEqual(BadRun(reason="b").reason, "b")
        self.assertEqual(BadCode(index=2, reason="c").index, 2)
        self.assertEqual(BadScript(line=3, reason="d").line, 3)

    def test_number_of_arguments(self):
        wrong = (
            (BadProgram, ()), (BadText, ()), (BadInput, (1,)), (BadCode, (1,)),
            (BadRun, ()), (BadScript, (1,)),
        )
        for kind, arguments in wrong:
            with self.assertRaises(TypeError):
                kind(*arguments)

    def test_raised_and_caught(self):
        for error in (BadProgram("a"), BadText(0), BadInput(), BadCode(0, "a"),
                      BadRun("a"), BadScript(0, "a")):
            with self.assertRaises(QuietError):
                raise error


if __name__ == "__main__":
    unittest.main()
