"""The form of the program, and that it uses no clock, no random numbers and no files: points 1 and 2."""

import ast
import inspect
import pathlib
import unittest

import sharenet
from sharenet import building, canonical, cells, checking, core, crew, evaluating, families, history, kinds, linking
from sharenet import needed, needing, net, numerals, plain, readback, reader, records, rounds, rules, running
from sharenet import simplifying, suspending, terms, tokens, wirekinds, writer

FOLDER = pathlib.Path(sharenet.__file__).parent
FILES = sorted(FOLDER.rglob("*.py"))
TREES = {path: ast.parse(path.read_text(encoding="utf-8")) for path in FILES}

BUILTINS = {
    "len", "range", "enumerate", "zip", "min", "max", "sum", "abs", "sorted", "reversed", "int", "str", "bool",
    "list", "tuple", "dict", "set", "isinstance", "ord", "repr", "any", "all", "divmod", "super", "ValueError",
    "TypeError", "KeyError", "True", "False", "None",
}

SIGNATURES = {
    "kinds": {"fun_kind": "(a, b)", "bang_kind": "(a)", "pair_kind": "(a, b)", "kind_text": "(kind)"},
    "tokens": {"tokens_of": "(text)"},
    "terms": {"is_name": "(text)", "size_of": "(term)", "depth_of": "(term)", "free_names": "(term)"},
    "reader": {"read_kind": "(text)", "read_term": "(text)", "read_program": "(text)"},
    "writer": {"write_term": "(term)", "write_program": "(program)"},
    "linking": {"linked": "(program, name)"},
    "checking": {"check_term": "(term)", "check_program": "(program)", "levels_of": "(term, name)"},
    "core": {"core_size": "(core)", "core_text": "(core)", "is_closed": "(core)", "core_of": "(term)"},
    "plain": {"redexes": "(core)", "contract": "(core, path)", "normal_form": "(core, *, most=10000)",
              "normal_steps": "(core, *, most=10000)"},
    "families": {"family_sequence": "(term, *, choices=(), most=2000)", "work_of": "(term, *, most=2000)"},
    "net": {"Net": "(agents, wires)"},
    "canonical": {"canonical_order": "(net)", "canonical_text": "(net)", "same_net": "(first, second)",
                  "read_net": "(text)"},
    "building": {"net_of": "(term)"},
    "rules": {"rule_of": "(net, pair)", "interact": "(net, pair)"},
    "running": {"run_net": "(net, *, choices=(), most=10000)"},
    "readback": {"read_back": "(net)", "read_count": "(net, name)", "shared_agents": "(net)"},
    "needed": {"value_known": "(net)", "needed_pair": "(net)", "run_needed": "(net, *, most=10000)"},
    "records": {"record_of": "(term, *, choices=(), most=2000)", "check_record": "(term, record, core)"},
    "cells": {"CellMachine": "(net, *, capacity)"},
    "crew": {"Crew": "(net, *, workers)"},
    "numerals": {"numeral": "(count, kind)", "numeral_sum": "(first, second, kind)",
                 "numeral_product": "(first, second, kind)", "applied_numeral": "(term, function, argument)",
                 "fibonacci_term": "(count)"},
    "evaluating": {"Evaluator": "(*, most=10000, simple=False)"},
    "wirekinds": {"plain_kind": "(kind)", "net_fits": "(net, kind)"},
    "simplifying": {"is_simple": "(term)", "simplified": "(term)"},
    "needing": {"need_normal": "(term, *, most=10000)"},
    "rounds": {"run_rounds": "(net, *, most=10000)", "depths_of": "(net, *, choices=(), most=10000)"},
    "history": {"History": "(net)"},
    "suspending": {"dump": "(machine)", "restored": "(text)", "moved": "(machine, *, capacity)"},
}
METHODS = {
    net.Net: {"names": "(self)", "agent": "(self, name)", "peer": "(self, name, port)", "pairs": "(self)",
              "copied": "(self)", "__len__": "(self)"},
    cells.CellMachine: {"memory": "(self)", "numbers": "(self)", "signs": "(self)", "free_cells": "(self)",
                        "pairs": "(self)", "interact": "(self, pair)", "run": "(self, *, choices=(), most=10000)",
                        "to_net": "(self)"},
    crew.Crew: {"turn": "(self, worker)", "tick": "(self)", "queues": "(self)",
                "run": "(self, *, turns=(), most=10000)", "shares": "(self)", "present_net": "(self)"},
    evaluating.Evaluator: {"run_text": "(self, text)"},
    history.History: {"forward": "(self, choice)", "back": "(self)", "present_net": "(self)", "__len__": "(self)"},
}
MODULES = {"kinds": kinds, "tokens": tokens, "terms": terms, "reader": reader, "writer": writer,
           "linking": linking, "checking": checking, "core": core, "plain": plain, "families": families, "net": net,
           "canonical": canonical, "building": building, "rules": rules, "running": running, "readback": readback,
           "needed": needed, "records": records, "cells": cells, "crew": crew, "numerals": numerals,
           "evaluating": evaluating, "wirekinds": wirekinds, "simplifying": simplifying, "needing": needing,
           "rounds": rounds, "history": history, "suspending": suspending}


class Interface(unittest.TestCase):
    def test_functions_stand_in_their_files_with_their_arguments(self):
        for module, functions in SIGNATURES.items():
            for name, arguments in functions.items():
                with self.subTest(f"{module}.{name}"):
                    function = getattr(MODULES[module], name)
                    self.assertEqual(function.__module__, f"sharenet.{module}")
                    self.assertEqual(str(inspect.signature(function)), arguments)

    def test_methods_stand_in_the_class_itself(self):
        for owner, methods in METHODS.items():
            for name, arguments in methods.items():
                with self.subTest(f"{owner.__name__}.{name}"):
                    self.assertEqual(str(inspect.signature(vars(owner)[name])), arguments)

    def test_attributes_are_set_when_an_object_is_created(self):
        self.assertEqual(vars(evaluating.Evaluator())["counts"], None)
        self.assertIs(vars(evaluating.Evaluator())["busy"], False)
        small = net.Net([("root", 0, None), ("num", 0, 5)], [((0, 0), (1, 0))])
        self.assertEqual(vars(cells.CellMachine(small, capacity=4))["peak"], 2)

    def test_constants(self):
        self.assertIsInstance(net.PORTS, dict)
        self.assertIsInstance(running.RULES, tuple)


class Form(unittest.TestCase):
    def test_the_folder_contains_only_program_files(self):
        for path in FOLDER.rglob("*"):
            if "__pycache__" not in path.parts:
                self.assertIn(path, FILES)
                self.assertRegex(path.name, r"\A([a-z][a-z0-9_]*|__init__)\.py\Z")

    def test_lines_and_characters(self):
        for path in FILES:
            lines = path.read_bytes().decode("ascii").split("\n")
            with self.subTest(path.name):
                self.assertLessEqual(len(lines), 400)
                for line in lines:
                    self.assertLessEqual(len(line), 120, line)
                    self.assertTrue(line == "" or line.isprintable(), line)

    def test_functions_are_small(self):
        for path, tree in TREES.items():
            for node in ast.walk(tree):
                if isinstance(node, ast.FunctionDef):
                    self.assertLessEqual(node.end_lineno - node.lineno + 1, 40, f"{path.name}: {node.name}")
                    self.assertEqual(node.decorator_list, [])

    def test_imports_name_the_file_that_defines_the_name(self):
        for path, tree in TREES.items():
            for node in ast.walk(tree):
                self.assertNotIsInstance(node, ast.Import, path.name)
                if isinstance(node, ast.ImportFrom):
                    self.assertIn(node, tree.body)
                    self.assertRegex(node.module, r"\Asharenet\.[a-z]+\Z")
                    defined = defined_names(TREES[FOLDER / f"{node.module.split('.')[1]}.py"])
                    for alias in node.names:
                        self.assertIn(alias.name, defined, path.name)
                        self.assertIsNone(alias.asname)

    def test_no_other_builtins(self):
        for path, tree in TREES.items():
            known = BUILTINS | defined_names(tree)
            for node in ast.walk(tree):
                if isinstance(node, ast.ImportFrom):
                    known |= {alias.name for alias in node.names}
                elif isinstance(node, ast.arg):
                    known.add(node.arg)
                elif isinstance(node, ast.Name) and isinstance(node.ctx, ast.Store):
                    known.add(node.id)
            for node in ast.walk(tree):
                if isinstance(node, ast.Name):
                    self.assertIn(node.id, known, path.name)

    def test_no_names_of_builtins_are_given_another_meaning(self):
        import builtins
        for path, tree in TREES.items():
            for node in ast.walk(tree):
                names = []
                if isinstance(node, (ast.FunctionDef, ast.ClassDef)):
                    names = [node.name]
                elif isinstance(node, ast.arg):
                    names = [node.arg]
                elif isinstance(node, ast.Name) and isinstance(node.ctx, ast.Store):
                    names = [node.id]
                for name in names:
                    if name not in ("__init__", "__len__"):
                        self.assertFalse(hasattr(builtins, name), f"{path.name}: {name}")
                        self.assertRegex(name, r"\A(_|_?[A-Za-z][A-Za-z0-9_]*)\Z")

    def test_what_the_language_leaves_out(self):
        left_out = (ast.Global, ast.AsyncFunctionDef, ast.Await, ast.Div, ast.TypeAlias if hasattr(ast, "TypeAlias")
                    else ast.Global, ast.Import, ast.SetComp, ast.Yield, ast.YieldFrom)
        for path, tree in TREES.items():
            for node in ast.walk(tree):
                self.assertNotIsInstance(node, left_out, path.name)
                if isinstance(node, ast.Constant):
                    self.assertNotIsInstance(node.value, (float, complex), path.name)
                    if isinstance(node.value, str):
                        self.assertNotIn("%", node.value, path.name)
                if isinstance(node, ast.ClassDef):
                    self.assertTrue(node.name[0].isalpha(), node.name)

    def test_module_level(self):
        allowed = (ast.ImportFrom, ast.FunctionDef, ast.ClassDef, ast.Assign, ast.Expr)
        for path, tree in TREES.items():
            names = []
            for node in tree.body:
                self.assertIsInstance(node, allowed, path.name)
                if isinstance(node, ast.Expr):
                    self.assertIsInstance(node.value, ast.Constant, path.name)
                names.extend(names_bound_by(node))
            self.assertEqual(len(names), len(set(names)), path.name)
            self.assertTrue(ast.get_docstring(tree), path.name)


def names_bound_by(node):
    if isinstance(node, (ast.FunctionDef, ast.ClassDef)):
        return [node.name]
    if isinstance(node, ast.Assign):
        return [target.id for target in node.targets]
    if isinstance(node, ast.ImportFrom):
        return [alias.name for alias in node.names]
    return []


def defined_names(tree):
    return {name for node in tree.body if not isinstance(node, ast.ImportFrom) for name in names_bound_by(node)}
