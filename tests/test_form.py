"""The form of the package's files: those rules of the language that are quickly looked at."""

import ast
import builtins
import unittest
from pathlib import Path

PACKAGE = Path(__file__).resolve().parent.parent / "comeround"

BUILT_IN = (
    "len range enumerate zip min max sum abs sorted reversed int str bool list tuple dict set frozenset isinstance"
    " ord repr any all divmod Exception ValueError TypeError KeyError IndexError LookupError ZeroDivisionError"
    " ArithmeticError OverflowError RuntimeError NotImplementedError AttributeError StopIteration"
).split()

LEFT_OUT = (
    ast.Import, ast.ImportFrom, ast.Global, ast.Nonlocal, ast.With, ast.Match, ast.Delete, ast.Assert, ast.Yield,
    ast.YieldFrom, ast.AsyncFunctionDef, ast.Await, ast.Div, ast.SetComp, ast.DictComp, ast.GeneratorExp,
    ast.NamedExpr, ast.Starred,
)


def files():
    return sorted(PACKAGE.rglob("*.py"))


def nodes(path):
    return list(ast.walk(ast.parse(path.read_text(encoding="ascii"))))


class Form(unittest.TestCase):
    def test_only_python_files_lie_in_the_package(self):
        others = [p for p in PACKAGE.rglob("*") if p.suffix != ".py" and "__pycache__" not in p.parts]
        self.assertEqual(others, [])
        self.assertIn(PACKAGE / "__init__.py", files())

    def test_sizes_and_signs(self):
        for path in files():
            lines = path.read_text(encoding="ascii").split("\n")
            self.assertLessEqual(len(lines), 401, path)
            for line in lines:
                self.assertLessEqual(len(line), 120, line)
                self.assertTrue(all(" " <= sign <= "~" for sign in line), line)

    def test_functions_are_short_and_plain(self):
        for path in files():
            for node in nodes(path):
                if isinstance(node, ast.FunctionDef):
                    self.assertLessEqual(node.end_lineno - node.lineno + 1, 40, node.name)
                    self.assertEqual(node.decorator_list, [], node.name)

    def test_nothing_is_imported_and_no_form_is_used_that_is_left_out(self):
        for path in files():
            for node in nodes(path):
                self.assertNotIsInstance(node, LEFT_OUT, f"{path.name} {getattr(node, 'lineno', '')}")

    def test_of_pythons_own_names_only_those_allowed(self):
        for path in files():
            for node in nodes(path):
                if isinstance(node, ast.Name) and hasattr(builtins, node.id):
                    self.assertIn(node.id, BUILT_IN, f"{path.name} {node.lineno}")
                    self.assertIsInstance(node.ctx, ast.Load, f"{path.name} {node.lineno}")


if __name__ == "__main__":
    unittest.main()
