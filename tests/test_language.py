"""What LANGUAGE.md says of files, lines, functions, signs and imports (L1, L2, L10, L14), and the interface's names."""

import ast
import inspect
import pathlib
import unittest

from deathnotes import houses, notes, tables

FOLDER = pathlib.Path(__file__).resolve().parent.parent / "deathnotes"


class Language(unittest.TestCase):
    def setUp(self):
        self.files = sorted(path for path in FOLDER.iterdir() if path.name != "__pycache__")

    def test_the_folder_contains_plain_files_only(self):
        self.assertIn(FOLDER / "__init__.py", self.files)
        for path in self.files:
            self.assertRegex(path.name, "^[a-z0-9_]+[.]py$")

    def test_files_and_lines_are_short_and_have_plain_signs(self):
        for path in self.files:
            text = path.read_text(encoding="utf-8")
            self.assertTrue(all(sign == "\n" or " " <= sign <= "~" for sign in text), path)
            lines = text.splitlines()
            self.assertLessEqual(len(lines), 399, path)
            self.assertLessEqual(max(map(len, lines)), 120, path)

    def test_functions_are_short(self):
        for path in self.files:
            for node in ast.walk(ast.parse(path.read_text(encoding="utf-8"))):
                if isinstance(node, ast.FunctionDef):
                    self.assertLessEqual(node.end_lineno - node.lineno + 1, 40, (path, node.name))

    def test_only_the_package_is_imported(self):
        for path in self.files:
            for node in ast.walk(ast.parse(path.read_text(encoding="utf-8"))):
                self.assertNotIsInstance(node, ast.Import, path)
                if isinstance(node, ast.ImportFrom):
                    self.assertTrue(node.module.startswith("deathnotes."), (path, node.module))


class Interface(unittest.TestCase):
    def test_functions_are_defined_in_their_files(self):
        for module, name, handed in [(tables, "rings", ["tables"]), (tables, "why", ["tables", "handle"]),
                                     (notes, "written", ["tables"]), (notes, "read", ["text"])]:
            function = getattr(module, name)
            self.assertEqual(function.__module__, module.__name__)
            self.assertEqual(list(inspect.signature(function).parameters), handed)

    def test_methods_are_defined_in_the_house_itself(self):
        self.assertEqual(houses.House.__module__, "deathnotes.houses")
        for name, handed in {
                "__init__": ["number", "many"], "make": ["worth"], "count": ["handle"], "give": ["handle", "to"],
                "drop": ["handle"], "sweep": ["things"], "died": ["other"], "bring": ["letter"], "turn": [],
                "link": ["thing", "handle"], "unlink": ["thing", "handle"], "watch": ["handle"],
                "call": ["handle", "number"], "answers": [], "notes": [], "things": [], "table": []}.items():
            self.assertIn(name, vars(houses.House))
            self.assertEqual(list(inspect.signature(getattr(houses.House, name)).parameters), ["self", *handed])


if __name__ == "__main__":
    unittest.main()
