"""The form of the package's files, as far as a look at them tells."""

import ast
import pathlib
import unittest

FOLDER = pathlib.Path(__file__).resolve().parent.parent / "drawerdesk"
LIBRARY = ("heapq", "math", "itertools", "collections")


def paths():
    return [path for path in sorted(FOLDER.rglob("*")) if "__pycache__" not in path.parts]


class TestForm(unittest.TestCase):
    def test_folder_holds_program_files_alone(self):
        names = [path.name for path in paths()]
        self.assertIn("__init__.py", names)
        for path in paths():
            self.assertTrue(path.is_dir() or path.suffix == ".py", path)

    def test_signs_and_sizes(self):
        for path in paths():
            if path.is_file():
                text = path.read_text(encoding="utf-8")
                self.assertTrue(all(" " <= sign <= "~" or sign == "\n" for sign in text), path)
                rows = text.splitlines()
                self.assertLessEqual(len(rows), 399, path)
                self.assertLessEqual(max(map(len, rows), default=0), 120, path)

    def test_functions_and_imports(self):
        for path in paths():
            if path.is_file():
                for node in ast.walk(ast.parse(path.read_text(encoding="utf-8"))):
                    self.check(path, node)

    def check(self, path, node):
        place = (path.name, getattr(node, "lineno", 0))
        if isinstance(node, ast.FunctionDef):
            self.assertLessEqual(node.end_lineno - node.lineno + 1, 40, place)
        if isinstance(node, ast.Import):
            self.assertEqual((path.name, [name.name for name in node.names]),
                             ("__main__.py", ["sys"]), place)
        if isinstance(node, ast.ImportFrom):
            self.assertEqual(node.level, 0, place)
            known = (*LIBRARY, "drawerdesk", "__future__")
            self.assertIn(node.module.split(".")[0], known, place)


if __name__ == "__main__":
    unittest.main()
