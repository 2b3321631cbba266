"""The rules of the language that can be seen at a glance: files, imports, sizes, signs, builtins."""

import ast
import builtins
import pathlib
import unittest

FOLDER = pathlib.Path(__file__).resolve().parent.parent / "switchstages"
FILES = sorted(FOLDER.glob("*.py"))
ALLOWED_BUILTINS = (
    "len range enumerate zip min max sum abs sorted reversed int str bool list tuple dict set isinstance ord repr any "
    "all divmod ValueError KeyError"
).split()
BARRED_NODES = (
    ast.Global, ast.AsyncFunctionDef, ast.AnnAssign, ast.Import, ast.Div, ast.Yield, ast.YieldFrom, ast.GeneratorExp,
)


class LanguageTest(unittest.TestCase):
    def test_the_folder_holds_plain_files_alone(self):
        others = [path.name for path in FOLDER.iterdir() if path not in FILES and path.name != "__pycache__"]
        self.assertEqual(others, [])
        self.assertIn(FOLDER / "__init__.py", FILES)

    def test_sizes_and_signs(self):
        for path in FILES:
            text = path.read_text(encoding="utf-8")
            self.assertTrue(all(sign == "\n" or " " <= sign <= "~" for sign in text), path)
            self.assertLessEqual(len(text.splitlines()), 399, path)
            self.assertLessEqual(max(len(line) for line in text.splitlines()), 120, path)

    def test_functions_are_small(self):
        for path, node in self.nodes():
            if isinstance(node, ast.FunctionDef):
                self.assertLessEqual(node.end_lineno - node.lineno + 1, 40, (path, node.name))

    def test_imports_are_of_the_package_alone(self):
        for path, node in self.nodes():
            if isinstance(node, ast.ImportFrom):
                self.assertTrue(node.module.startswith("switchstages."), path)
                self.assertEqual(node.level, 0)
                defined = ast.parse((FOLDER / (node.module.split(".")[1] + ".py")).read_text(encoding="utf-8")).body
                names = [part.name for part in defined if hasattr(part, "name")]
                names += [part.targets[0].id for part in defined if isinstance(part, ast.Assign)]
                for name in node.names:
                    self.assertIn(name.name, names, path)
                    self.assertIsNone(name.asname)

    def test_no_barred_statement_or_value(self):
        for path, node in self.nodes():
            self.assertNotIsInstance(node, BARRED_NODES, (path, getattr(node, "lineno", 0)))
            if isinstance(node, ast.Constant):
                self.assertNotIsInstance(node.value, (float, complex, bytes), (path, node.lineno))

    def test_builtins_are_only_called_and_never_hidden(self):
        for path, node in self.nodes():
            if isinstance(node, ast.Name) and hasattr(builtins, node.id):
                self.assertIn(node.id, ALLOWED_BUILTINS, (path, node.lineno))
                self.assertIsInstance(node.ctx, ast.Load, (path, node.lineno))
            if isinstance(node, ast.arg):
                self.assertFalse(hasattr(builtins, node.arg), (path, node.lineno))
            if isinstance(node, (ast.FunctionDef, ast.ClassDef)) and node.name != "__init__":
                self.assertFalse(hasattr(builtins, node.name), (path, node.lineno))

    def test_no_local_name_hides_an_import(self):
        for path in FILES:
            tree = ast.parse(path.read_text(encoding="utf-8"))
            imported = [name.name for node in tree.body if isinstance(node, ast.ImportFrom) for name in node.names]
            for node in ast.walk(tree):
                if isinstance(node, ast.arg):
                    self.assertNotIn(node.arg, imported, (path, node.lineno))
                if isinstance(node, ast.Name) and isinstance(node.ctx, ast.Store):
                    self.assertNotIn(node.id, imported, (path, node.lineno))

    def nodes(self):
        for path in FILES:
            for node in ast.walk(ast.parse(path.read_text(encoding="utf-8"))):
                yield path.name, node


if __name__ == "__main__":
    unittest.main()
