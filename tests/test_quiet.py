import ast
import contextlib
import io
import pathlib
import unittest

import arrowmaps
from arrowmaps import graphs

FOLDER = pathlib.Path(arrowmaps.__file__).parent


class Quiet(unittest.TestCase):
    def test_nothing_is_imported_printed_or_read(self):
        for file in sorted(FOLDER.rglob("*.py")):
            for node in ast.walk(ast.parse(file.read_text())):
                self.assertNotIsInstance(node, (ast.Import, ast.ImportFrom), file.name)
                if isinstance(node, ast.Name):
                    self.assertNotIn(node.id, ("print", "input", "open"), file.name)

    def test_a_call_prints_nothing(self):
        out = io.StringIO()
        with contextlib.redirect_stdout(out), contextlib.redirect_stderr(out):
            graphs.count(2, 3, [0, 1], [0, 1, 1, 2])
            graphs.count(0, 3, [0, 1], [0, 1, 1, 2])
            graphs.nth(2, 3, 1, [0, 1], [0, 1, 1, 2])
            graphs.nth(2, 3, 2, [0, 1], [0, 1, 1, 2])
            graphs.nth(0, 3, 1, [0, 1], [0, 1, 1, 2])
            graphs.is_map(2, 3, [0, 1], [0, 1, 1, 2], [1, 2])
            graphs.is_map(2, 3, [0, 1], [0, 1, 1, 2], [9])
            graphs.is_map(0, 3, [0, 1], [0, 1, 1, 2], [1, 2])
            graphs.kinds(2, 3, [0, 1], [0, 1, 1, 2])
            graphs.kinds(0, 3, [0, 1], [0, 1, 1, 2])
            graphs.same(2, 2, [0, 1], [1, 0])
            graphs.same(2, 3, [0, 1], [0, 1, 1, 2])
            graphs.same(0, 3, [0, 1], [0, 1, 1, 2])
        self.assertEqual(out.getvalue(), "")


if __name__ == "__main__":
    unittest.main()
