"""What LANGUAGE.md says of files, lines, functions, signs and imports (L1, L2, L10, L14)."""

import ast
import pathlib
import unittest

FOLDER = pathlib.Path(__file__).resolve().parent.parent / "deathnotes"


class Language(unittest.TestCase):
    def setUp(self):
        self.files = sorted(path for path in FOLDER.iterdir() if path.name != "__pycache__")

    def test_the_folder_contains_plain_files_only(self):
        self.assertIn(FOLDER / "__init__.py", self.files)
        for path in self.files:
            self.assertRegex(path.name, "^[a-z0-9_]+[.]py$")

    def test_files_and_lines_are_short_and_have_plain_signs(self):
        for path in self.files:
            text = path.read_text(encoding="utf-8")
            self.assertTrue(all(sign == "\n" or " " <= sign <= "~" for sign in text), path)
            lines = text.splitlines()
            self.assertLessEqual(len(lines), 399, path)
            self.assertLessEqual(max(map(len, lines)), 120, path)

    def test_functions_are_short(self):
        for path in self.files:
            for node in ast.walk(ast.parse(path.read_text(encoding="utf-8"))):
                if isinstance(node, ast.FunctionDef):
                    self.assertLessEqual(node.end_lineno - node.lineno + 1, 40, (path, node.name))

    def test_only_the_package_is_imported(self):
        for path in self.files:
            for node in ast.walk(ast.parse(path.read_text(encoding="utf-8"))):
                self.assertNotIsInstance(node, ast.Import, path)
                if isinstance(node, ast.ImportFrom):
                    self.assertTrue(node.module.startswith("deathnotes."), (path, node.module))


if __name__ == "__main__":
    unittest.main()
