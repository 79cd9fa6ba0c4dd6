"""What can be seen at a glance of the rules by which the package is written."""

import ast
import builtins
import unittest
from pathlib import Path

PACKAGE = Path(__file__).resolve().parent.parent / "aisleshift"
BUILTINS = {
    "len", "range", "enumerate", "zip", "min", "max", "sum", "abs", "sorted", "reversed", "int",
    "str", "bool", "list", "tuple", "dict", "set", "isinstance", "ord", "repr", "any", "all",
    "divmod", "super",
}
LIBRARY = {"heapq": {"heappush", "heappop"}}
BARRED_NODES = (ast.Global, ast.AsyncFunctionDef, ast.Await, ast.Div, ast.Import)


def nodes(kind):
    """All nodes of a kind in the package, each with its file's name."""
    for path in sorted(PACKAGE.glob("*.py")):
        for node in ast.walk(ast.parse(path.read_text(encoding="ascii"))):
            if isinstance(node, kind):
                yield path.name, node


class LanguageTest(unittest.TestCase):

    def test_folder_holds_files_of_python_alone(self):
        names = [path.name for path in PACKAGE.iterdir() if path.name != "__pycache__"]
        self.assertIn("__init__.py", names)
        self.assertEqual([name for name in names if not name.endswith(".py")], [])

    def test_characters_and_sizes(self):
        for path in PACKAGE.glob("*.py"):
            text = path.read_text(encoding="ascii")
            self.assertTrue(all(sign == "\n" or " " <= sign <= "~" for sign in text), path.name)
            self.assertLessEqual(len(text.splitlines()), 399, path.name)
            self.assertLessEqual(max(len(line) for line in text.splitlines()), 120, path.name)

    def test_functions_are_short(self):
        for name, node in nodes(ast.FunctionDef):
            self.assertLessEqual(node.end_lineno - node.lineno + 1, 40, (name, node.name))
            self.assertEqual(node.decorator_list, [], (name, node.name))

    def test_imports_are_of_the_package_by_full_names(self):
        for name, node in nodes(ast.ImportFrom):
            self.assertEqual(node.level, 0, name)
            told = {alias.name for alias in node.names}
            self.assertEqual([alias.asname for alias in node.names if alias.asname], [], name)
            if node.module in LIBRARY:
                self.assertLessEqual(told, LIBRARY[node.module], name)
                continue
            self.assertTrue(node.module.startswith("aisleshift."), (name, node.module))
            defined = ast.parse((PACKAGE / (node.module.split(".")[1] + ".py")).read_text())
            here = {part.name for part in defined.body if hasattr(part, "name")}
            here |= {part.targets[0].id for part in defined.body if isinstance(part, ast.Assign)}
            self.assertLessEqual(told, here, name)

    def test_no_variable_has_an_imports_name(self):
        for path in PACKAGE.glob("*.py"):
            walked = list(ast.walk(ast.parse(path.read_text(encoding="ascii"))))
            told = {alias.name for node in walked if isinstance(node, ast.ImportFrom)
                    for alias in node.names}
            bound = {node.arg for node in walked if isinstance(node, ast.arg)}
            bound |= {node.id for node in walked
                      if isinstance(node, ast.Name) and isinstance(node.ctx, ast.Store)}
            self.assertEqual(told & bound, set(), path.name)
            self.assertEqual([word for word in bound if hasattr(builtins, word)], [], path.name)

    def test_no_barred_statements(self):
        self.assertEqual(list(nodes(BARRED_NODES)), [])

    def test_no_floats(self):
        for name, node in nodes(ast.Constant):
            self.assertNotIsInstance(node.value, (float, complex), name)

    def test_builtins_that_are_called(self):
        for name, node in nodes(ast.Call):
            if isinstance(node.func, ast.Name) and hasattr(builtins, node.func.id):
                self.assertIn(node.func.id, BUILTINS, name)


if __name__ == "__main__":
    unittest.main()
