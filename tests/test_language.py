"""What ../shared/LANGUAGE.md bounds and a reader would overlook in the package's files."""

import ast
import builtins
import pathlib
import re
import unittest

PACKAGE = pathlib.Path(__file__).resolve().parent.parent / "oneair"
FILES = sorted(PACKAGE.rglob("*.py"))
BARRED = {"type", "typing", "typing_extensions", "enum", "Enum", "IntEnum", "StrEnum", "Flag",
          "IntFlag", "Generic", "Protocol", "ABC", "ABCMeta", "namedtuple", "NamedTuple",
          "TypedDict", "TYPE_CHECKING", "abstractmethod"}
BUILTINS = {"len", "range", "enumerate", "zip", "min", "max", "sum", "abs", "sorted", "reversed",
            "int", "str", "bool", "list", "tuple", "dict", "set", "isinstance", "ord", "repr",
            "any", "all", "divmod", "super", "ValueError"}


class Files(unittest.TestCase):

    def test_only_python_files(self):
        self.assertGreater(len(FILES), 1)
        for path in PACKAGE.rglob("*"):
            if "__pycache__" not in path.parts:
                self.assertEqual(path.suffix, ".py", path)

    def test_characters_lines_and_words(self):
        for path in FILES:
            text = path.read_bytes().decode("ascii")
            self.assertEqual(re.findall("[^ -~\n]", text), [], path)
            lines = text.splitlines()
            self.assertLessEqual(len(lines), 399, path)
            self.assertLessEqual(max(map(len, lines), default=0), 120, path)
            self.assertEqual(set(re.findall(r"\w+", text)) & BARRED, set(), path)

    def test_functions_names_and_imports(self):
        for path in FILES:
            tree = ast.parse(path.read_text())
            own = {node.name for node in ast.walk(tree)
                   if isinstance(node, (ast.FunctionDef, ast.ClassDef))}
            for node in ast.walk(tree):
                if isinstance(node, ast.FunctionDef):
                    self.assertLessEqual(node.end_lineno - node.lineno + 1, 40, node.name)
                if isinstance(node, (ast.Import, ast.Global, ast.AsyncFunctionDef)):
                    self.fail(f"{path}:{node.lineno}")
                if isinstance(node, ast.ImportFrom):
                    self.assertTrue(node.module.startswith("oneair."), path)
                    own |= {alias.name for alias in node.names}
            for node in ast.walk(tree):
                if isinstance(node, ast.Call) and isinstance(node.func, ast.Name):
                    self.assertIn(node.func.id, BUILTINS | own, path)

    def test_no_name_has_two_meanings(self):
        for path in FILES:
            tree = ast.parse(path.read_text())
            taken = [alias.name for node in tree.body if isinstance(node, ast.ImportFrom)
                     for alias in node.names]
            taken += [node.name for node in tree.body if isinstance(node, ast.ClassDef)]
            bound = [node.name for node in tree.body if isinstance(node, ast.FunctionDef)]
            bound += [target.id for node in tree.body if isinstance(node, ast.Assign)
                      for target in node.targets]
            self.assertEqual(len(set(taken + bound)), len(taken + bound), path)
            for node in ast.walk(tree):
                if isinstance(node, ast.arg):
                    bound.append(node.arg)
                if isinstance(node, ast.Name) and isinstance(node.ctx, ast.Store):
                    bound.append(node.id)
            for name in bound:
                self.assertNotIn(name, [*taken, *dir(builtins)], path)
                self.assertRegex(name, "^[A-Za-z][A-Za-z0-9_]*$")


if __name__ == "__main__":
    unittest.main()
