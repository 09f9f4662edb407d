"""The names, the arguments and the examples of the interface, as far as it is built."""

import ast
import importlib
import inspect
import pathlib
import unittest

from quietsmith.errors import BadCode, BadText

PACKAGE = pathlib.Path(__file__).resolve().parent.parent / "quietsmith"

FUNCTIONS = {
    "values": {"is_name": ["value"], "is_integer": ["value", "least", "greatest"],
               "is_variable": ["value"], "is_value": ["variable", "value"], "zero_value": ["variable"]},
    "forms": {"check_shape": ["value"]},
    "printing": {"program_text": ["program"]},
    "syntax": {"parse_program": ["text"]},
    "checker": {"check_program": ["program"]},
    "meaning": {"run_program": ["program", "inputs"]},
    "words": {"combine": ["name", "a", "b", "carry"]},
    "instructions": {"is_instruction": ["value"], "is_code": ["value"], "targets": ["instruction"]},
    "layouts": {"is_layout": ["value"], "is_code_file": ["value"], "layout_end": ["layout"],
                "region_at": ["layout", "address"], "is_memory": ["layout", "value"]},
    "costs": {"base_cycles": ["name"]},
    "listing": {"code_text": ["code_file"], "parse_code": ["text"]},
    "limbs": {"words_of": ["n"], "run_rows": ["rows", "known"]},
    "compiler": {"compile_program": ["program"]},
    "running": {"load": ["program", "binary", "values"], "outputs_of": ["program", "binary", "memory"],
                "run_compiled": ["program", "values", "limit"]},
    "facts": {"is_state": ["value"], "state_fits": ["state", "other"], "union": ["state", "other"]},
    "transfer": {"next_state": ["layout", "state", "instruction"]},
    "certificates": {"is_certificate": ["code_file", "value"]},
    "annotate": {"annotate": ["code_file"]},
    "judge": {"states_of": ["code_file", "certificate"], "check_code": ["code_file", "certificate"],
              "judge": ["code_file"]},
    "builders": {"power_program": ["m", "count"], "inverse_program": ["m"], "ladder_program": ["m", "a", "count"]},
    "scripts": {"run_script": ["text"]},
    "simplifying": {"simplify": ["program"]},
    "tidying": {"tidy": ["code_file"]},
}
CLASSES = {
    "errors": {"QuietError": None, "BadProgram": ["reason"], "BadText": ["index"], "BadInput": [],
               "BadCode": ["index", "reason"], "BadRun": ["reason"], "BadScript": ["line", "reason"]},
    "costs": {"Cache": [], "Predictor": []},
    "machine": {"Machine": ["code_file", "memory"]},
    "limbs": {"Block": ["first"]},
}
METHODS = {
    ("costs", "Cache"): {"access": ["address"], "lines": []},
    ("costs", "Predictor"): {"branch": ["place", "jumps"], "counters": []},
    ("machine", "Machine"): {
        "step": [], "run": ["limit"], "ended": [], "place": [], "cycles": [], "carry": [], "registers": [],
        "memory": [], "stack": [], "shown": []},
    ("limbs", "Block"): {
        "constant": ["n", "count"], "add": ["a", "b", "count"], "sub": ["a", "b", "count"], "mul": ["a", "b", "count"],
        "both": ["head", "a", "b"], "down": ["a", "k", "count"], "up": ["a", "k", "count"], "low": ["a", "k", "count"],
        "less": ["a", "b"], "same": ["a", "b"], "bit": ["a", "r"], "pick": ["r", "a", "b"], "addmod": ["a", "b", "m"],
        "submod": ["a", "b", "m"], "mulmod": ["a", "b", "m"], "rows": []},
}


def defined(module):
    tree = ast.parse((PACKAGE / (module + ".py")).read_text(encoding="utf-8"))
    return [node.name for node in tree.body if isinstance(node, (ast.FunctionDef, ast.ClassDef))]


def named_arguments(thing):
    return list(inspect.signature(thing).parameters)


class InterfaceTest(unittest.TestCase):
    def test_functions(self):
        for module, functions in FUNCTIONS.items():
            loaded = importlib.import_module("quietsmith." + module)
            for name, arguments in functions.items():
                self.assertIn(name, defined(module))
                self.assertEqual(named_arguments(getattr(loaded, name)), arguments, name)

    def test_classes(self):
        for module, classes in CLASSES.items():
            loaded = importlib.import_module("quietsmith." + module)
            for name, arguments in classes.items():
                self.assertIn(name, defined(module))
                if arguments is not None:
                    self.assertEqual(named_arguments(getattr(loaded, name)), arguments, name)

    def test_methods(self):
        for (module, name), methods in METHODS.items():
            kind = getattr(importlib.import_module("quietsmith." + module), name)
            for method, arguments in methods.items():
                self.assertIn(method, vars(kind))
                self.assertEqual(named_arguments(vars(kind)[method]), ["self"] + arguments, method)

    def test_examples_of_the_machine(self):
        from quietsmith.limbs import Block, run_rows
        from quietsmith.listing import parse_code
        from quietsmith.machine import Machine
        machine = Machine((((0, 2, "secret", 65535),), (
            ("load", 3, 0, 1), ("add", 3, 3, 3), ("store", 3, 0, 0), ("halt",))), [7, 40000])
        self.assertEqual(machine.run(10), 4)
        self.assertEqual(machine.memory(), [14464, 40000])
        self.assertEqual(machine.shown(), [(0, 1, 7), (1, -1, 8), (2, 0, 10), (3, -1, 11)])
        self.assertEqual(parse_code("region 4 2 public 9\nbelow 1 10 0\nhalt"),
                         (((4, 2, 'public', 9),), (('below', 1, 10, 0), ('halt',))))
        with self.assertRaises(BadText):
            parse_code("set 1 07")
        block = Block(10)
        r = block.add((0, 1), (2,), 2)
        known = run_rows(block.rows(), {0: 65535, 1: 3, 2: 1})
        self.assertEqual([known[k] for k in r], [0, 4])

    def test_examples_of_the_judge(self):
        from quietsmith.judge import judge
        self.assertEqual(judge((((0, 4, "secret", 65535),), (
            ("set", 2, 1), ("load", 3, 1, 0), ("add", 1, 1, 2), ("below", 1, 4, 1), ("halt",)))), 14)
        with self.assertRaises(BadCode):
            judge((((0, 4, "secret", 65535),), (("load", 3, 1, 0), ("below", 3, 5, 2), ("halt",))))

    def test_examples_of_scripts(self):
        from quietsmith.scripts import run_script
        self.assertEqual(run_script(
            "text fun f(secret x 9, public y 9) to (secret z 18) { z = (x + y); }\nmean 4 5\nmean 9 9")[1:],
            ["means 9", "means 18"])

    def test_examples(self):
        from quietsmith.meaning import run_program
        from quietsmith.syntax import parse_program
        from quietsmith.words import combine
        self.assertEqual(
            parse_program("fun f(secret x 9) to (secret y 18) { y = (x + x); }"),
            (('f', (('x', 'secret', 9, 0),), (('y', 'secret', 18, 0),), (),
              (('set', 'y', ('add', ('name', 'x'), ('name', 'x'))),)),))
        with self.assertRaises(BadText):
            parse_program("fun f() to (secret y 18) { y = 007; }")
        program = parse_program(
            "fun f(secret x 9) to (secret y 45) { loop k 1 to 5 { y = low((y + x), 5); } }")
        self.assertEqual(run_program(program, (9,)), (13,))
        self.assertEqual(combine("subc", 5, 5, 1), (65535, 1))
        self.assertEqual(combine("downby", 40, 19, 1), (5, 1))


if __name__ == "__main__":
    unittest.main()
