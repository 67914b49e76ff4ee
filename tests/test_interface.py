"""The interface: its names stand in their files, each method in its class; the README holds."""

import importlib
import re
import unittest
from pathlib import Path

FUNCTIONS = {"frames": ["frames_of", "rows_of"]}
CLASSES = {
    "craft": {
        "Craft": ["tell", "known", "close", "begin", "shut", "beat", "again", "kept", "lost", "waits"],
    },
    "ground": {"Ground": ["hear", "never", "rows", "has", "wants"]},
}
README = Path(__file__).parent.parent / "README.md"


class InterfaceTest(unittest.TestCase):
    def test_functions(self):
        for file, names in FUNCTIONS.items():
            module = importlib.import_module("skyframes." + file)
            for name in names:
                self.assertEqual(getattr(module, name).__module__, "skyframes." + file)

    def test_classes_and_their_methods(self):
        for file, classes in CLASSES.items():
            module = importlib.import_module("skyframes." + file)
            for name, methods in classes.items():
                found = getattr(module, name)
                self.assertEqual(found.__module__, "skyframes." + file)
                for method in methods:
                    self.assertIn(method, vars(found))

    def test_the_example_of_the_readme(self):
        block = re.search("```python\n(.*?)```", README.read_text(), re.DOTALL).group(1)
        names = {}
        checked = 0
        for row in block.splitlines():
            code, _, told = row.partition("  # ")
            due = re.match(r"(\[.*\]|\(.*?\)\)|True|\d+)", told.strip(" #"))
            if "=" in code or code.startswith("from") or not code.strip():
                exec(code, names)
            else:
                self.assertEqual(eval(code, names), eval(due.group(1)), row)
                checked += 1
        self.assertEqual(checked, 10)


if __name__ == "__main__":
    unittest.main()
