"""Tests that the files of the package keep some of the rules of the language that a reader easily overlooks."""

import ast
import os
import unittest

FOLDER = os.path.join(os.path.dirname(os.path.abspath(__file__)), os.pardir, "fewtell")
SIGNS = [
    "__eq__", "__str__", "__repr__", "__len__", "__add__", "__sub__", "__neg__", "__mul__", "__rmul__", "__contains__",
    "__bool__",
]


def read_files():
    """The texts of the files of the package by their names."""
    found = {}
    for name in sorted(os.listdir(FOLDER)):
        if name.endswith(".py"):
            with open(os.path.join(FOLDER, name), encoding="utf-8") as file:
                found[name] = file.read()
    return found


def nodes_of(kind, tree):
    return [node for node in ast.walk(tree) if isinstance(node, kind)]


def is_property(function):
    return any(isinstance(row, ast.Name) and row.id == "property" for row in function.decorator_list)


class TestLanguage(unittest.TestCase):
    def setUp(self):
        self.texts = read_files()
        self.trees = {name: ast.parse(text) for name, text in self.texts.items()}
        self.functions = {}
        for tree in self.trees.values():
            for kind in nodes_of(ast.ClassDef, tree):
                for function in nodes_of(ast.FunctionDef, kind):
                    self.functions.setdefault(function.name, []).append(function)
                    if function.name == "__init__":
                        self.functions.setdefault(kind.name, []).append(function)
            for function in tree.body:
                if isinstance(function, ast.FunctionDef):
                    self.functions.setdefault(function.name, []).append(function)
        self.attributes = {node.attr for tree in self.trees.values() for node in nodes_of(ast.Attribute, tree)
                           if isinstance(node.ctx, ast.Store)}

    def test_no_call_has_the_name_of_an_attribute(self):
        # Such a call counts as one of what the attribute holds: the errors have an attribute called index.
        self.assertIn("index", self.attributes)
        for name, tree in self.trees.items():
            for call in nodes_of(ast.Call, tree):
                if isinstance(call.func, ast.Attribute):
                    self.assertNotIn(call.func.attr, self.attributes, f"{name} row {call.lineno}")

    def reached(self):
        """The functions that operators and properties reach, by the names that they call."""
        waiting = [function for name, rows in self.functions.items() for function in rows
                   if name in SIGNS or is_property(function)]
        found = []
        while waiting:
            function = waiting.pop()
            if function in found:
                continue
            found.append(function)
            for call in nodes_of(ast.Call, function):
                name = call.func.id if isinstance(call.func, ast.Name) else call.func.attr
                waiting.extend(self.functions.get(name, []))
        return found

    def test_operators_call_nothing_that_they_are_passed_or_hold(self):
        found = self.reached()
        self.assertIn("web_of_seats", [function.name for function in found])
        for function in found:
            names = {row.arg for row in function.args.args}
            names |= {node.id for node in nodes_of(ast.Name, function) if isinstance(node.ctx, ast.Store)}
            for call in nodes_of(ast.Call, function):
                self.assertNotIsInstance(call.func, (ast.Call, ast.Subscript, ast.Lambda))
                if isinstance(call.func, ast.Name):
                    self.assertNotIn(call.func.id, names, f"{function.name} row {call.lineno}")
            self.assertFalse(nodes_of((ast.Delete, ast.AugAssign, ast.Yield, ast.YieldFrom), function), function.name)

    def test_sizes(self):
        for name, text in self.texts.items():
            rows = text.splitlines()
            self.assertLess(len(rows), 400, name)
            self.assertLess(max((len(row) for row in rows), default=0), 121, name)
            self.assertTrue(all(" " <= sign <= "~" or sign == "\n" for sign in text), name)
            for function in nodes_of(ast.FunctionDef, self.trees[name]):
                self.assertLess(function.end_lineno - function.lineno, 40, f"{name} {function.name}")


if __name__ == "__main__":
    unittest.main()
