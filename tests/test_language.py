"""What can be seen at a glance of the form that the package keeps to; the rules' numbers are LANGUAGE.md's."""

import ast
import pathlib
import re
import unittest

import erasedall

FOLDER = pathlib.Path(erasedall.__file__).parent
FILES = sorted(FOLDER.glob("*.py"))
FORBIDDEN_WORDS = (
    "type", "typing", "enum", "Enum", "Flag", "Generic", "Protocol", "ABC", "namedtuple", "register", "open", "input",
)
FORBIDDEN_NODES = (
    ast.Import, ast.ImportFrom, ast.With, ast.Delete, ast.Global, ast.Nonlocal, ast.Assert, ast.Yield, ast.Match,
    ast.SetComp, ast.DictComp, ast.GeneratorExp, ast.NamedExpr, ast.Starred, ast.Div, ast.Set,
)


class TestForm(unittest.TestCase):
    def nodes(self):
        for path in FILES:
            for node in ast.walk(ast.parse(path.read_text())):
                yield path.name, node

    def test_nothing_but_python_files_lies_in_the_package(self):
        found = sorted(path.name for path in FOLDER.iterdir() if path.name != "__pycache__")
        self.assertEqual(found, [path.name for path in FILES])

    def test_size_and_signs(self):
        for path in FILES:
            text = path.read_text()
            self.assertTrue(all(" " <= sign <= "~" or sign == "\n" for sign in text), path)
            rows = text.split("\n")
            self.assertLessEqual(len(rows), 399)
            self.assertLessEqual(max(len(row) for row in rows), 120)

    def test_functions_are_short_and_plain(self):
        for name, node in self.nodes():
            if isinstance(node, ast.FunctionDef):
                self.assertLessEqual(node.end_lineno - node.lineno + 1, 40, (name, node.name))
                self.assertEqual(node.decorator_list, [])
                self.assertEqual((node.args.vararg, node.args.kwarg, node.args.kwonlyargs), (None, None, []))

    def test_no_words_that_may_not_stand_there(self):
        for path in FILES:
            words = re.findall(r"\w+", path.read_text())
            self.assertEqual([word for word in words if word in FORBIDDEN_WORDS], [], path)

    def test_nothing_is_imported_and_no_other_statement_used(self):
        for name, node in self.nodes():
            self.assertNotIsInstance(node, FORBIDDEN_NODES, (name, getattr(node, "lineno", 0)))

    def test_no_recursion(self):
        for name, node in self.nodes():
            if isinstance(node, ast.FunctionDef):
                called = [getattr(call.func, "attr", getattr(call.func, "id", "")) for call in ast.walk(node)
                          if isinstance(call, ast.Call)]
                self.assertNotIn(node.name, called, name)


if __name__ == "__main__":
    unittest.main()
