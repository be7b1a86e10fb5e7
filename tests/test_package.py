"""What the package is made of: its interface, where each name is defined, and the size of its files."""

import ast
import unittest
from pathlib import Path

PACKAGE = Path(__file__).resolve().parent.parent / "heavierhall"

ALLOWED_IMPORTS = ("heavierhall", "heapq", "math", "itertools", "collections", "__future__")

# file, {name: its parameters, or None for a class, or {method: its parameters} for one with methods}
INTERFACE = {
    "errors": {
        "HallError": None, "BadWorld": None, "BadMeeting": None, "BadWish": None, "BadPaper": None, "NoThing": None,
        "BadDeed": None, "BadCount": None, "TooMany": None, "NoPair": None, "BadText": None,
    },
    "worlds": {"met": ["world", "meetings"], "gifts": ["world", "meetings"]},
    "reaching": {
        "reached": ["world"], "ends": ["world"], "way": ["world", "wish"], "bars": ["world", "rows", "wish"],
    },
    "endings": {
        "round_of": ["world"], "heights": ["world"], "longest": ["world"], "only_end": ["world"],
        "shows": ["world", "rows"],
    },
    "turns": {
        "period": ["world", "turns"], "after": ["world", "turns", "many"], "rests": ["world", "turns"],
    },
    "duels": {
        "forced": ["world", "wish"], "chosen": ["world", "wish"], "plan": ["world", "wish"],
        "wins": ["world", "wish", "rows"],
    },
    "halls": {
        "Hall": {
            "__init__": ["self", "rule"], "come": ["self", "weight"], "leave": ["self", "number"],
            "link": ["self", "one", "other"], "cut": ["self", "one", "other"], "meet": ["self", "one", "other"],
            "back": ["self"], "weights": ["self"], "pairs": ["self"], "deeds": ["self"], "still": ["self"],
            "world": ["self"],
        },
        "again": ["rule", "deeds"],
    },
    "notes": {"written": ["world"], "read": ["text"]},
}


def defined_in(body):
    """{name: its parameters, or what is defined in its class} of all that these rows define."""
    found = {}
    for row in body:
        if isinstance(row, ast.FunctionDef):
            found[row.name] = [argument.arg for argument in row.args.args]
        elif isinstance(row, ast.ClassDef):
            found[row.name] = defined_in(row.body)
    return found


class Package(unittest.TestCase):
    def setUp(self):
        self.texts = {path.stem: path.read_text(encoding="utf-8") for path in sorted(PACKAGE.glob("*.py"))}
        self.trees = {name: ast.parse(text) for name, text in self.texts.items()}

    def test_interface_is_defined_where_it_is_listed(self):
        for name, listed in INTERFACE.items():
            defined = defined_in(self.trees[name].body)
            for word, wanted in listed.items():
                with self.subTest(file=name, name=word):
                    self.assertIn(word, defined)
                    if isinstance(wanted, list):
                        self.assertEqual(defined[word], wanted)
                    else:
                        self.assertIsInstance(defined[word], dict)
                        own = {method: defined[word].get(method) for method in wanted or {}}
                        self.assertEqual(own, wanted or {})

    def test_nothing_but_files_of_the_package(self):
        others = [path.name for path in PACKAGE.iterdir() if path.suffix != ".py" and path.name != "__pycache__"]
        self.assertEqual(others, [])
        self.assertIn("__init__", self.texts)

    def test_imports_are_allowed_ones(self):
        for name, tree in self.trees.items():
            for node in ast.walk(tree):
                self.assertNotIsInstance(node, ast.Import, name)
                if isinstance(node, ast.ImportFrom):
                    self.assertEqual(node.level, 0, name)
                    self.assertIn(node.module.split(".")[0], ALLOWED_IMPORTS, name)

    def test_sizes_and_characters(self):
        for name, text in self.texts.items():
            rows = text.split("\n")
            self.assertLess(len(rows), 400, name)
            self.assertLessEqual(max(len(row) for row in rows), 120, name)
            self.assertEqual([sign for sign in text if not (" " <= sign <= "~" or sign == "\n")], [], name)
            for node in ast.walk(self.trees[name]):
                if isinstance(node, ast.FunctionDef):
                    self.assertLessEqual(node.end_lineno - node.lineno + 1, 40, (name, node.name))


if __name__ == "__main__":
    unittest.main()
