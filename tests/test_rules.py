"""The rules of LANGUAGE.md that are easily broken and easily checked; it has many more."""

import ast
import pathlib
import unittest

PACKAGE = pathlib.Path(__file__).resolve().parent.parent / "shelfbots"
FILES = sorted(PACKAGE.rglob("*.py"))
# What the interface lists for each file.
INTERFACE = {
    "errors": ("BotError", "SyntaxFault", "CheckFault", "InvalidTick", "InvalidNumber", "TooLong", "DifferentShelves",
               "Contradiction", "InvalidCode", "CellFull", "CellEmpty", "InvalidName", "UnknownName",
               "InvalidOperation"),
    "formatter": ("format_plan", "count_steps"),
    "machine": ("cells", "boxes", "holding", "trace", "find_cycle"),
    "locks": ("lock_tick", "stuck_robots", "stuck_from", "count_blocked", "count_done", "unused_steps"),
    "planning": ("plan_waits", "free_starts"),
    "comparison": ("first_difference", "first_error"),
    "watching": ("Camera",),
    "encoding": ("encode", "decode"),
    "stage": ("Stage",),
}
# What the interface lists for each class; all of it stands in the body of the class itself.
METHODS = {
    "watching": {"Camera": ("__init__", "see", "see_from", "starts", "history", "possible")},
    "stage": {"Stage": ("__init__", "step", "add", "take", "jump", "undo", "redo", "passed", "places", "shelf_boxes",
                        "held", "blocked", "operations", "save", "restore", "batch", "replay")},
}
BARRED_NODES = (
    ast.Global, ast.AsyncFunctionDef, ast.Await, ast.AsyncFor, ast.AsyncWith, ast.Import, ast.Div, ast.MatMult,
)


class RulesTest(unittest.TestCase):

    def each(self):
        for path in FILES:
            with self.subTest(file=path.name):
                text = path.read_text(encoding="utf-8")
                yield path, text, ast.parse(text)

    def test_files(self):
        names = {path.name for path in PACKAGE.iterdir()} - {"__pycache__"}
        self.assertEqual(names, {path.name for path in FILES})
        self.assertIn("__init__.py", names)

    def test_characters(self):
        for _, text, _ in self.each():
            self.assertLessEqual(set(text), {chr(code) for code in range(32, 127)} | {"\n"})

    def test_sizes(self):
        for _, text, tree in self.each():
            self.assertLessEqual(len(text.splitlines()), 399)
            self.assertLessEqual(max(len(line) for line in text.splitlines()), 120)
            for node in ast.walk(tree):
                if isinstance(node, ast.FunctionDef):
                    self.assertLessEqual(node.end_lineno - node.lineno + 1, 40, node.name)

    def test_imports_come_from_the_defining_file(self):
        for _, _, tree in self.each():
            for node in ast.walk(tree):
                if isinstance(node, ast.ImportFrom):
                    self.assertEqual(node.module.split(".")[0], "shelfbots")
                    self.assertEqual(node.level, 0)
                    source = ast.parse((PACKAGE / (node.module.split(".")[1] + ".py")).read_text(encoding="utf-8"))
                    self.assertLessEqual({alias.name for alias in node.names}, names_of(source))

    def test_no_barred_statements_and_strings(self):
        for _, _, tree in self.each():
            for node in ast.walk(tree):
                self.assertNotIsInstance(node, BARRED_NODES)
                if isinstance(node, ast.Constant):
                    self.assertNotIsInstance(node.value, float)
                    self.assertNotIn("%", str(node.value))

    def test_interface_is_defined_in_its_files(self):
        for name, expected in INTERFACE.items():
            tree = ast.parse((PACKAGE / f"{name}.py").read_text(encoding="utf-8"))
            defined = {node.name for node in tree.body if isinstance(node, (ast.FunctionDef, ast.ClassDef))}
            self.assertLessEqual(set(expected), defined)

    def test_methods_are_defined_in_their_classes(self):
        for name, classes in METHODS.items():
            tree = ast.parse((PACKAGE / f"{name}.py").read_text(encoding="utf-8"))
            bodies = {node.name: node.body for node in tree.body if isinstance(node, ast.ClassDef)}
            for owner, expected in classes.items():
                defined = {node.name for node in bodies[owner] if isinstance(node, ast.FunctionDef)}
                self.assertLessEqual(set(expected), defined)


def names_of(tree):
    """Returns the set of the names that a file defines itself."""
    names = {node.name for node in tree.body if isinstance(node, (ast.FunctionDef, ast.ClassDef))}
    for node in tree.body:
        if isinstance(node, ast.Assign):
            names |= {target.id for target in node.targets}
    return names


if __name__ == "__main__":
    unittest.main()
