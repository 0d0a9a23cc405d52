"""The form of the package: where the interface stands, and the sizes and characters of its files."""

import ast
import re
import unittest
import warnings
from pathlib import Path

PACKAGE = Path(__file__).resolve().parent.parent / "gatehands"

INTERFACE = {
    "errors.py": {
        "GateError": [], "BadGate": ["why", "hand", "step"], "NoHand": [], "TooMany": [],
        "TwoWithin": ["weaving"], "OtherGate": [], "BadText": ["row"],
    },
    "gates.py": {"Gate": ["boxes", "hands"]},
    "walking.py": {
        "begin": ["gate"], "done": ["gate", "state", "hand"], "played": ["gate", "weaving"],
        "within": ["gate", "state"], "waiting": ["gate", "state"], "outside": ["gate", "state"],
    },
    "maps.py": {"Map": ["gate"]},
    "looking.py": {"two_within": ["gate"], "shut": ["gate"], "hung": ["gate"], "held_up": ["gate", "state", "hand"]},
    "passing.py": {"passed": ["gate", "hand"]},
    "papers.py": {"fault": ["gate", "rooms"], "paper": ["gate"]},
    "fewer.py": {"breaker": ["gate"], "tries": ["most", "ahead", "after"]},
    "building.py": {"pair": [], "bits": ["many"], "tower": []},
    "notes.py": {"written": ["gate"], "read": ["text"]},
}
METHODS = {
    ("gates.py", "Gate"): {"boxes", "hands", "many"},
    ("maps.py", "Map"): {"states", "steps", "weaving_to"},
}

BARRED = (
    "type", "typing", "typing_extensions", "enum", "Enum", "IntEnum", "StrEnum", "Flag", "IntFlag", "Generic",
    "Protocol", "ABC", "ABCMeta", "namedtuple", "NamedTuple", "TypedDict", "TYPE_CHECKING", "abstractmethod",
)


def sources():
    return sorted(PACKAGE.glob("*.py"))


def defined(path):
    tree = ast.parse(path.read_text(encoding="utf-8"))
    return {node.name: node for node in tree.body if isinstance(node, (ast.FunctionDef, ast.ClassDef))}


def named(path):
    """All that a file binds at module level but by imports."""
    tree = ast.parse(path.read_text(encoding="utf-8"))
    values = {node.targets[0].id for node in tree.body if isinstance(node, ast.Assign)}
    return values | set(defined(path))


def parameters(node):
    if isinstance(node, ast.FunctionDef):
        return [argument.arg for argument in node.args.args]
    made = [part for part in node.body if isinstance(part, ast.FunctionDef) and part.name == "__init__"]
    return parameters(made[0])[1:] if made else []


class Form(unittest.TestCase):

    def test_the_interface_is_defined_in_its_files(self):
        for name, listed in INTERFACE.items():
            found = defined(PACKAGE / name)
            for word, wanted in listed.items():
                self.assertIn(word, found)
                self.assertEqual(parameters(found[word]), wanted, word)

    def test_methods_are_defined_in_their_classes(self):
        for (name, word), wanted in METHODS.items():
            body = defined(PACKAGE / name)[word].body
            self.assertLessEqual(wanted, {part.name for part in body if isinstance(part, ast.FunctionDef)})

    def test_the_folder_contains_sources_only(self):
        found = {path.name for path in PACKAGE.iterdir() if path.name != "__pycache__"}
        self.assertEqual(found, {path.name for path in sources()})
        self.assertIn("__init__.py", found)

    def test_characters_and_sizes(self):
        for path in sources():
            text = path.read_text(encoding="utf-8")
            rows = text.split("\n")
            self.assertIsNone(re.search("[^ -~\n]", text), path.name)
            self.assertLess(len(rows), 400, path.name)
            self.assertLessEqual(max(len(row) for row in rows), 120, path.name)
            for node in ast.walk(ast.parse(text)):
                if isinstance(node, ast.FunctionDef):
                    self.assertLessEqual(node.end_lineno - node.lineno + 1, 40, node.name)

    def test_words_that_are_not_used(self):
        for path in sources():
            words = set(re.findall("[A-Za-z_]+", path.read_text(encoding="utf-8")))
            self.assertEqual(words & set(BARRED), set(), path.name)

    def test_imports_come_from_the_package_by_full_names(self):
        for path in sources():
            for node in ast.walk(ast.parse(path.read_text(encoding="utf-8"))):
                self.assertNotIsInstance(node, ast.Import, path.name)
                if isinstance(node, ast.ImportFrom):
                    self.assertEqual(node.level, 0, path.name)
                    home = PACKAGE.parent / (node.module.replace(".", "/") + ".py")
                    self.assertLessEqual({name.name for name in node.names}, named(home), path.name)

    def test_python_gives_no_warnings(self):
        with warnings.catch_warnings():
            warnings.simplefilter("error")
            for path in sources():
                compile(path.read_text(encoding="utf-8"), str(path), "exec")


if __name__ == "__main__":
    unittest.main()
