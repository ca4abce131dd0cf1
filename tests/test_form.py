"""The package's own files: nothing is imported, printed or read, and the form is kept."""

import ast
import pathlib
import unittest

PACKAGE = pathlib.Path(__file__).resolve().parent.parent / "heartpacer"
REFUSED = (
    ast.Import, ast.ImportFrom, ast.Global, ast.Nonlocal, ast.With, ast.Delete, ast.Assert, ast.Yield, ast.YieldFrom,
    ast.GeneratorExp, ast.DictComp, ast.SetComp, ast.NamedExpr, ast.Starred, ast.Div, ast.Match,
)


class Form(unittest.TestCase):
    def texts(self):
        return {path: path.read_text("utf-8") for path in sorted(PACKAGE.glob("*.py"))}

    def nodes(self):
        return [node for text in self.texts().values() for node in ast.walk(ast.parse(text))]

    def test_files(self):
        found = sorted(path.name for path in PACKAGE.iterdir() if path.name != "__pycache__")
        self.assertEqual(found, ["__init__.py", "pacer.py"])

    def test_no_import_and_nothing_else_that_is_left_out(self):
        self.assertEqual([ast.dump(node) for node in self.nodes() if isinstance(node, REFUSED)], [])

    def test_nothing_prints_or_reads(self):
        names = {node.id for node in self.nodes() if isinstance(node, ast.Name)}
        self.assertEqual(names & {"print", "open", "input", "exec", "eval", "__import__", "globals"}, set())

    def test_sizes_and_signs(self):
        for path, text in self.texts().items():
            lines = text.split("\n")
            self.assertLessEqual(len(lines), 400)
            self.assertLessEqual(max(len(line) for line in lines), 120)
            self.assertTrue(all(" " <= sign <= "~" or sign == "\n" for sign in text), path)

    def test_functions_are_short(self):
        for node in self.nodes():
            if isinstance(node, ast.FunctionDef):
                self.assertLessEqual(node.end_lineno - node.lineno + 1, 40, node.name)


if __name__ == "__main__":
    unittest.main()
