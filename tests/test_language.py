"""Those rules of LANGUAGE.md that are seen at a glance, for each file of the package."""

import ast
import builtins
import os
import re
import unittest

PACKAGE = os.path.join(os.path.dirname(os.path.dirname(os.path.abspath(__file__))), "stretchkeep")
WORDS = ("type typing typing_extensions enum Enum IntEnum StrEnum Flag IntFlag Generic Protocol ABC ABCMeta "
         "namedtuple NamedTuple TypedDict TYPE_CHECKING abstractmethod").split()
BUILTINS = ("len range enumerate zip min max sum abs sorted reversed int str bool list tuple dict set isinstance ord "
            "repr any all divmod iter next super ValueError KeyError").split()


def files():
    names = sorted(name for name in os.listdir(PACKAGE) if name != "__pycache__")
    found = {}
    for name in names:
        with open(os.path.join(PACKAGE, name), encoding="utf-8") as file:
            found[name] = file.read()
    return found


class Language(unittest.TestCase):
    def test_files(self):
        self.assertIn("__init__.py", files())
        for name in files():
            self.assertRegex(name, r"\A[a-z0-9_]+\.py\Z")

    def test_sizes_and_characters(self):
        for name, text in files().items():
            lines = text.split("\n")
            self.assertLess(len(lines), 400, name)
            for line in lines:
                self.assertLessEqual(len(line), 120, name)
                self.assertRegex(line, r"\A[ -~]*\Z", name)
            for node in ast.walk(ast.parse(text)):
                if isinstance(node, ast.FunctionDef):
                    self.assertLessEqual(node.end_lineno - node.lineno + 1, 40, node.name)

    def test_words(self):
        for name, text in files().items():
            for word in re.findall(r"[A-Za-z0-9_]+", text):
                self.assertNotIn(word, WORDS, name)
            self.assertNotRegex(text, "dataclass|overload|contextmanager", name)

    def test_imports(self):
        for name, text in files().items():
            for node in ast.walk(ast.parse(text)):
                self.assertNotIsInstance(node, ast.Import, name)
                if isinstance(node, ast.ImportFrom):
                    self.assertEqual((node.level, node.module.split(".")[0]), (0, "stretchkeep"), name)
                    self.assertIn(node.module.split(".")[1] + ".py", files(), name)

    def test_names(self):
        for name, text in files().items():
            nodes = list(ast.walk(ast.parse(text)))
            names = [node for node in nodes if isinstance(node, ast.Name)]
            bound = [node.name for node in nodes if isinstance(node, (ast.FunctionDef, ast.ClassDef))]
            bound += [node.id for node in names if not isinstance(node.ctx, ast.Load)]
            bound += [node.arg for node in nodes if isinstance(node, ast.arg)]
            for one in bound:
                self.assertFalse(one.startswith("_") and one != "__init__", (name, one))
                self.assertNotIn(one, dir(builtins), name)
            imports = [node for node in nodes if isinstance(node, ast.ImportFrom)]
            known = bound + [alias.name for node in imports for alias in node.names] + BUILTINS
            for node in names:
                self.assertIn(node.id, known, name)


if __name__ == "__main__":
    unittest.main()
