"""The names, the arguments and the examples of the interface, as far as it is built."""

import ast
import importlib
import inspect
import pathlib
import unittest

from quietsmith.errors import BadText

PACKAGE = pathlib.Path(__file__).resolve().parent.parent / "quietsmith"

FUNCTIONS = {
    "values": {"is_name": ["value"], "is_integer": ["value", "least", "greatest"],
               "is_variable": ["value"], "is_value": ["variable", "value"], "zero_value": ["variable"]},
    "forms": {"check_shape": ["value"]},
    "printing": {"program_text": ["program"]},
    "syntax": {"parse_program": ["text"]},
    "checker": {"check_program": ["program"]},
    "meaning": {"run_program": ["program", "inputs"]},
    "words": {"combine": ["name", "a", "b", "carry"]},
}
CLASSES = {
    "errors": {"QuietError": None, "BadProgram": ["reason"], "BadText": ["index"], "BadInput": [],
               "BadCode": ["index", "reason"], "BadRun": ["reason"], "BadScript": ["line", "reason"]},
}


def defined(module):
    tree = ast.parse((PACKAGE / (module + ".py")).read_text(encoding="utf-8"))
    return [node.name for node in tree.body if isinstance(node, (ast.FunctionDef, ast.ClassDef))]


def named_arguments(thing):
    return list(inspect.signature(thing).parameters)


class InterfaceTest(unittest.TestCase):
    def test_functions(self):
        for module, functions in FUNCTIONS.items():
            loaded = importlib.import_module("quietsmith." + module)
            for name, arguments in functions.items():
                self.assertIn(name, defined(module))
                self.assertEqual(named_arguments(getattr(loaded, name)), arguments, name)

    def test_classes(self):
        for module, classes in CLASSES.items():
            loaded = importlib.import_module("quietsmith." + module)
            for name, arguments in classes.items():
                self.assertIn(name, defined(module))
                if arguments is not None:
                    self.assertEqual(named_arguments(getattr(loaded, name)), arguments, name)

    def test_examples(self):
        from quietsmith.meaning import run_program
        from quietsmith.syntax import parse_program
        from quietsmith.words import combine
        self.assertEqual(
            parse_program("fun f(secret x 9) to (secret y 18) { y = (x + x); }"),
            (('f', (('x', 'secret', 9, 0),), (('y', 'secret', 18, 0),), (),
              (('set', 'y', ('add', ('name', 'x'), ('name', 'x'))),)),))
        with self.assertRaises(BadText):
            parse_program("fun f() to (secret y 18) { y = 007; }")
        program = parse_program(
            "fun f(secret x 9) to (secret y 45) { loop k 1 to 5 { y = low((y + x), 5); } }")
        self.assertEqual(run_program(program, (9,)), (13,))
        self.assertEqual(combine("subc", 5, 5, 1), (65535, 1))
        self.assertEqual(combine("downby", 40, 19, 1), (5, 1))


if __name__ == "__main__":
    unittest.main()
