"""Those rules of LANGUAGE.md that are seen at a glance, for each file of the package."""

import ast
import builtins
import os
import re
import unittest

PACKAGE = os.path.join(os.path.dirname(os.path.dirname(os.path.abspath(__file__))), "stretchkeep")
WORDS = ("type typing typing_extensions enum Enum IntEnum StrEnum Flag IntFlag Generic Protocol ABC ABCMeta "
         "namedtuple NamedTuple TypedDict TYPE_CHECKING abstractmethod").split()
BUILTINS = ("len range enumerate zip min max sum abs sorted reversed int str bool list tuple dict set isinstance ord "
            "repr any all divmod iter next super ValueError KeyError").split()

METHODS = ("append clear copy count endswith extend find get index insert isalnum isalpha isdigit islower isspace isupper "
           "items join keys ljust lower lstrip partition pop remove replace reverse rfind rjust rpartition rsplit rstrip "
           "setdefault split splitlines startswith strip update upper values zfill bit_length").split()


def files():
    names = sorted(name for name in os.listdir(PACKAGE) if name != "__pycache__")
    found = {}
    for name in names:
        with open(os.path.join(PACKAGE, name), encoding="utf-8") as file:
            found[name] = file.read()
    return found


class Language(unittest.TestCase):
    def test_files(self):
        self.assertIn("__init__.py", files())
        for name in files():
            self.assertRegex(name, r"\A[a-z0-9_]+\.py\Z")

    def test_sizes_and_characters(self):
        for name, text in files().items():
            lines = text.split("\n")
            self.assertLess(len(lines), 400, name)
            for line in lines:
                self.assertLessEqual(len(line), 120, name)
                self.assertRegex(line, r"\A[ -~]*\Z", name)
            for node in ast.walk(ast.parse(text)):
                if isinstance(node, ast.FunctionDef):
                    self.assertLessEqual(node.end_lineno - node.lineno + 1, 40, node.name)

    def test_words(self):
        for name, text in files().items():
            for word in re.findall(r"[A-Za-z0-9_]+", text):
                self.assertNotIn(word, WORDS, name)
            self.assertNotRegex(text, "dataclass|overload|contextmanager", name)

    def test_imports(self):
        for name, text in files().items():
            for node in ast.walk(ast.parse(text)):
                self.assertNotIsInstance(node, ast.Import, name)
                if isinstance(node, ast.ImportFrom):
                    self.assertEqual((node.level, node.module.split(".")[0]), (0, "stretchkeep"), name)
                    self.assertIn(node.module.split(".")[1] + ".py", files(), name)

    def test_names(self):
        for name, text in files().items():
            nodes = list(ast.walk(ast.parse(text)))
            names = [node for node in nodes if isinstance(node, ast.Name)]
            bound = [node.name for node in nodes if isinstance(node, (ast.FunctionDef, ast.ClassDef))]
            bound += [node.id for node in names if not isinstance(node.ctx, ast.Load)]
            bound += [node.arg for node in nodes if isinstance(node, ast.arg)]
            bound += [node.name for node in nodes if isinstance(node, (ast.MatchAs, ast.MatchStar)) and node.name]
            for one in bound:
                self.assertFalse(one.startswith("_") and one != "__init__", (name, one))
                self.assertNotIn(one, dir(builtins), name)
            imports = [node for node in nodes if isinstance(node, ast.ImportFrom)]
            known = bound + [alias.name for node in imports for alias in node.names] + BUILTINS
            for node in names:
                self.assertIn(node.id, known, name)

    def test_no_variable_has_the_name_of_a_class_or_an_import(self):
        for name, text in files().items():
            nodes = list(ast.walk(ast.parse(text)))
            taken = [alias.name for node in nodes if isinstance(node, ast.ImportFrom) for alias in node.names]
            taken += [node.name for node in nodes if isinstance(node, ast.ClassDef)]
            bound = [node.id for node in nodes if isinstance(node, ast.Name) and not isinstance(node.ctx, ast.Load)]
            bound += [node.arg for node in nodes if isinstance(node, ast.arg)]
            bound += [node.name for node in nodes if isinstance(node, (ast.MatchAs, ast.MatchStar))]
            self.assertEqual(sorted(set(taken) & set(bound)), [], name)

    def test_methods_and_attributes(self):
        nodes = [node for text in files().values() for node in ast.walk(ast.parse(text))]
        methods = {part.name for node in nodes if isinstance(node, ast.ClassDef)
                   for part in node.body if isinstance(part, ast.FunctionDef)}
        dotted = [node for node in nodes if isinstance(node, ast.Attribute)]
        stored = {node.attr for node in dotted if not isinstance(node.ctx, ast.Load)}
        self.assertEqual(sorted(methods & stored), [])
        for node in dotted:
            self.assertIn(node.attr, sorted(methods | stored) + METHODS)
        # Sets, numbers and texts have these, so a method of such a name might be taken for theirs.
        for one in sorted(methods - {"__init__"}):
            for kind in (str, int, list, dict, set, bytes):
                self.assertFalse(hasattr(kind, one), one)

    def test_no_two_files_import_from_each_other(self):
        near = {}
        for name, text in files().items():
            imports = [node for node in ast.walk(ast.parse(text)) if isinstance(node, ast.ImportFrom)]
            near[name] = {node.module.split(".")[1] + ".py" for node in imports}
        left = dict(near)
        while left:
            free = [name for name in left if not any(other in left for other in near[name])]
            self.assertNotEqual(free, [], sorted(left))
            for name in free:
                del left[name]


if __name__ == "__main__":
    unittest.main()
