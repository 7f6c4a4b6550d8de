"""The interface, and the plainest rules for the files of the package."""

import ast
import builtins
import importlib
import inspect
import os
import re
import unittest

HERE = os.path.dirname(os.path.abspath(__file__))
PACKAGE = os.path.join(os.path.dirname(HERE), "anymend")

INTERFACE = {
    "errors": (
        "MendError", "BadText", "BadNumber", "BadName", "BadLot", "NoName", "TakenName", "TooSmall", "TooMany",
        "NotKept", "NothingToUndo", "NothingToRedo"),
    "ratios": ("ratio_of", "ratio_text"),
    "fields": ("is_prime", "rank_of", "echelon", "solved"),
    "stores": ("Store", "Mend", "written"),
    "demands": ("Way", "way", "demand", "demands", "greatest_file", "lasts", "Bar", "bar"),
    "histories": ("Net", "Flow", "flow_to", "cut_price"),
    "states": ("State", "ranks", "gets", "Standing", "standing"),
    "menders": ("field_bound", "first_state", "Mended", "mended", "after", "best_rank"),
    "numbers": ("Row", "places", "least_row", "least_room", "least_amount", "least_swap", "tight", "row_without"),
    "trades": ("Trade", "Never", "trade", "form_of", "least_at"),
    "plans": ("Plan", "cheapest", "least_with", "total_with"),
    "turns": ("Turns", "demand_by", "demands_by", "lasts_by", "bar_by", "Short", "standing_by"),
    "liars": ("Fooled", "stands", "Found", "Unclear", "found_among"),
    "runs": ("House", "again"),
    "desk": ("Desk",),
}

METHODS = {
    ("stores", "Store"): ("is_new", "mend_of"),
    ("states", "State"): ("rank_of",),
    ("turns", "Turns"): ("after",),
    ("runs", "House"): ("present", "shown", "mend", "read", "change", "past"),
    ("desk", "Desk"): (
        "put", "edit", "drop", "rename", "keep", "release", "attempt", "trial", "undo", "redo", "lines", "item_names",
        "promises", "get_store", "get_turns", "holds", "broken"),
}

# The names of the arguments that may be left out or passed by name.
LEFT_OUT = {
    ("demands", "way"): ("store", "lot", "reader", "mends"),
    ("demands", "demand"): ("store", "lot", "mends"),
    ("demands", "demands"): ("store", "mends"),
    ("demands", "greatest_file"): ("store", "mends"),
    ("demands", "bar"): ("store", "mends"),
    ("numbers", "least_row"): ("store", "mends"),
    ("numbers", "least_room"): ("store", "node", "mends"),
    ("numbers", "least_amount"): ("store", "label", "node", "helper", "mends"),
    ("numbers", "least_swap"): ("store", "label", "mends"),
    ("numbers", "tight"): ("store", "mends"),
    ("numbers", "row_without"): ("store", "place", "mends"),
    ("turns", "demand_by"): ("turns", "state", "lot", "mends"),
    ("turns", "demands_by"): ("turns", "state", "mends"),
    ("turns", "bar_by"): ("turns", "mends"),
    ("turns", "standing_by"): ("turns", "state", "held", "mends"),
    ("liars", "stands"): ("store", "reader", "missing", "liars", "mends"),
}


def texts():
    """The name and the text of each file of the package."""
    for name in sorted(os.listdir(PACKAGE)):
        if name.endswith(".py"):
            with open(os.path.join(PACKAGE, name), encoding="utf-8") as file:
                yield name, file.read()


class InterfaceTest(unittest.TestCase):
    def test_each_name_is_defined_in_its_module(self):
        for module, names in INTERFACE.items():
            where = importlib.import_module("anymend." + module)
            for name in names:
                self.assertEqual(getattr(where, name).__module__, "anymend." + module, name)
                self.assertEqual(getattr(where, name).__name__, name)

    def test_each_method_is_defined_in_its_class(self):
        for (module, name), methods in METHODS.items():
            where = getattr(importlib.import_module("anymend." + module), name)
            for method in methods:
                self.assertIn(method, vars(where), (name, method))

    def test_arguments_that_may_be_left_out(self):
        for (module, name), arguments in LEFT_OUT.items():
            where = inspect.signature(getattr(importlib.import_module("anymend." + module), name))
            self.assertEqual(tuple(where.parameters), arguments)
            self.assertIsNone(where.parameters["mends"].default)
        desk = inspect.signature(importlib.import_module("anymend.desk").Desk)
        self.assertEqual([(name, what.default) for name, what in desk.parameters.items()], [("text", "")])


class FilesTest(unittest.TestCase):
    def test_only_python_files(self):
        for name in os.listdir(PACKAGE):
            self.assertTrue(name.endswith(".py") or name == "__pycache__", name)

    def test_sizes(self):
        for name, text in texts():
            lines = text.splitlines()
            self.assertLess(len(lines), 400, name)
            for number, line in enumerate(lines, 1):
                self.assertLessEqual(len(line), 120, (name, number))
            for node in ast.walk(ast.parse(text)):
                if isinstance(node, ast.FunctionDef):
                    self.assertLessEqual(node.end_lineno - node.lineno + 1, 40, (name, node.name))

    def test_imports(self):
        imports = {}
        for name, text in texts():
            found = [node for node in ast.walk(ast.parse(text)) if isinstance(node, (ast.Import, ast.ImportFrom))]
            for node in found:
                self.assertIsInstance(node, ast.ImportFrom, name)
                self.assertTrue(node.module.startswith("anymend.") or node.module in ("math", "itertools"), name)
                for what in node.names:
                    # Imported out of the file that defines it, and used.
                    where = importlib.import_module(node.module)
                    self.assertIn(getattr(getattr(where, what.name), "__module__", node.module), (node.module, None))
                    self.assertEqual(len(re.findall(rf"\b{what.name}\b", text)) > 1, True, (name, what.name))
            imports[name[:-3]] = {node.module.split(".")[-1] for node in found}
        for name in imports:
            seen, ahead = set(), [name]
            while ahead:
                further = imports.get(ahead.pop(), set()) - seen
                seen |= further
                ahead += further
            self.assertNotIn(name, seen)

    def test_names(self):
        for name, text in texts():
            tree = ast.parse(text)
            barred = set(dir(builtins)) | {node.name for node in tree.body if isinstance(node, ast.ClassDef)} | {
                what.name for node in tree.body if isinstance(node, ast.ImportFrom) for what in node.names}
            for node in ast.walk(tree):
                if isinstance(node, (ast.FunctionDef, ast.Lambda)):
                    local = {what.arg for what in node.args.args}
                    local |= {what.id for what in ast.walk(node) if isinstance(what, ast.Name) and isinstance(what.ctx, ast.Store)}
                    self.assertFalse(local & barred, (name, node.lineno))
                if isinstance(node, ast.ClassDef):
                    methods = {what.name for what in node.body if isinstance(what, ast.FunctionDef)}
                    stored = {
                        what.attr for what in ast.walk(node)
                        if isinstance(what, ast.Attribute) and isinstance(what.ctx, ast.Store)}
                    self.assertFalse(methods & stored, (name, node.name))
                self.assertNotIsInstance(node, (ast.Div, ast.Yield, ast.Global, ast.AsyncFunctionDef), name)

    def test_characters(self):
        for name, text in texts():
            for character in text:
                self.assertTrue(character == "\n" or " " <= character <= "~", (name, character))


if __name__ == "__main__":
    unittest.main()
