"""A part of the rules for the package's source: what can be seen file by file."""

import ast
import builtins
import re
import unittest
from pathlib import Path

FOLDER = Path(__file__).parent.parent / "skyframes"
FILES = sorted(FOLDER.glob("*.py"))
BUILTINS = set(
    "len range enumerate zip min max sum abs sorted reversed int str bool list tuple dict set"
    " isinstance ord repr any all divmod super ValueError".split()
)
# What the rules bar, or allow in few places only and the package does without.
BARRED = (
    ast.Set, ast.SetComp, ast.GeneratorExp, ast.Global, ast.Nonlocal, ast.Import, ast.Div,
    ast.AsyncFunctionDef, ast.Await, ast.Yield, ast.YieldFrom,
)


def names_of(tree):
    """Tell all names that a file gives something."""
    names = set()
    for node in ast.walk(tree):
        if isinstance(node, ast.Name) and isinstance(node.ctx, ast.Store):
            names.add(node.id)
        elif isinstance(node, (ast.FunctionDef, ast.ClassDef)):
            names.add(node.name)
        elif isinstance(node, ast.arg):
            names.add(node.arg)
        elif isinstance(node, ast.alias):
            names.add(node.name)
        elif isinstance(node, (ast.MatchAs, ast.MatchStar)) and node.name is not None:
            names.add(node.name)
    return names


class LanguageTest(unittest.TestCase):
    def each(self):
        for file in FILES:
            text = file.read_text("utf-8")
            yield file.name, text, ast.parse(text)

    def test_the_folder(self):
        self.assertTrue(FILES)
        others = [path.name for path in FOLDER.iterdir() if path not in FILES]
        self.assertIn(others, ([], ["__pycache__"]))
        for file in FILES:
            self.assertRegex(file.stem, r"^[a-z_0-9]+$")

    def test_characters_and_sizes(self):
        for name, text, tree in self.each():
            self.assertRegex(text, r"\A[ -~\n]*\Z", name)
            self.assertLessEqual(len(text.splitlines()), 399, name)
            self.assertLessEqual(max(map(len, text.splitlines())), 120, name)
            for node in ast.walk(tree):
                if isinstance(node, ast.FunctionDef):
                    self.assertLessEqual(node.end_lineno - node.lineno, 39, node.name)

    def test_imports(self):
        for name, _, tree in self.each():
            for node in ast.walk(tree):
                if isinstance(node, ast.ImportFrom):
                    self.assertTrue(node.module.startswith("skyframes."), name)
                    self.assertEqual(node.level, 0, name)
                    self.assertTrue(all(alias.name != "*" for alias in node.names), name)

    def test_constructs(self):
        for name, _, tree in self.each():
            for node in ast.walk(tree):
                self.assertNotIsInstance(node, BARRED, name)
                self.assertFalse(getattr(node, "decorator_list", []), name)
                if isinstance(node, ast.Constant):
                    self.assertNotIsInstance(node.value, (float, complex), name)
                    self.assertFalse(isinstance(node.value, str) and "%" in node.value, name)

    def test_names(self):
        given = set()
        for name, _, tree in self.each():
            given |= names_of(tree)
        for name, _, tree in self.each():
            for node in ast.walk(tree):
                if isinstance(node, ast.Name) and isinstance(node.ctx, ast.Load):
                    self.assertIn(node.id, given | BUILTINS, name)
        for word in sorted(given):
            self.assertNotIn(word, dir(builtins))
            self.assertIsNone(re.match(r"_(wall|lay_|law_|pe_|dcw_|enum_|cm_|stub_|sre)", word), word)


if __name__ == "__main__":
    unittest.main()
