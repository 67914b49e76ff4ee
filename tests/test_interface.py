"""The interface: its names stand in their files, each method in its class; the README holds."""

import ast
import importlib
import re
import unittest
from pathlib import Path

FUNCTIONS = {
    "frames": ["frames_of", "rows_of"],
    "room": ["most_kept", "short_at", "least_windows"],
    "judging": ["judged"],
    "plays": ["played", "written", "read"],
}
CLASSES = {
    "craft": {
        "Craft": ["tell", "known", "close", "begin", "shut", "beat", "again", "kept", "lost", "waits"],
    },
    "ground": {"Ground": ["hear", "never", "rows", "has", "wants"]},
    "sky": {"Sky": ["do", "shown", "log"]},
}
README = Path(__file__).parent.parent / "README.md"


class InterfaceTest(unittest.TestCase):
    def test_functions(self):
        for file, names in FUNCTIONS.items():
            module = importlib.import_module("skyframes." + file)
            for name in names:
                self.assertEqual(getattr(module, name).__module__, "skyframes." + file)

    def test_classes_and_their_methods(self):
        for file, classes in CLASSES.items():
            module = importlib.import_module("skyframes." + file)
            for name, methods in classes.items():
                found = getattr(module, name)
                self.assertEqual(found.__module__, "skyframes." + file)
                for method in methods:
                    self.assertIn(method, vars(found))

    def test_the_examples_of_the_readme(self):
        checked = 0
        for block in re.findall("```python\n(.*?)```", README.read_text(), re.DOTALL):
            names = {}
            for row in block.splitlines():
                code, _, told = row.partition("  # ")
                if " = " in code or code.startswith("from") or not code.strip():
                    exec(code, names)
                else:
                    self.assertEqual(eval(code, names), value_ahead(told), row)
                    checked += 1
        self.assertEqual(checked, 20)


def value_ahead(told):
    """Tell the longest value that a comment begins with."""
    for end in range(len(told), 0, -1):
        if told[end:end + 1] in ("", ",", ":"):
            try:
                return ast.literal_eval(told[:end].strip())
            except (SyntaxError, ValueError):
                pass
    raise AssertionError(told)


if __name__ == "__main__":
    unittest.main()
