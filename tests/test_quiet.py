import ast
import contextlib
import importlib.util
import inspect
import io
import pathlib
import unittest

import arrowmaps
from arrowmaps import graphs

FOLDER = pathlib.Path(arrowmaps.__file__).parent


def call_each(graphs):
    graphs.count(2, 3, [0, 1], [0, 1, 1, 2])
    graphs.count(0, 3, [0, 1], [0, 1, 1, 2])
    graphs.nth(2, 3, 1, [0, 1], [0, 1, 1, 2])
    graphs.nth(2, 3, 2, [0, 1], [0, 1, 1, 2])
    graphs.nth(0, 3, 1, [0, 1], [0, 1, 1, 2])
    graphs.is_map(2, 3, [0, 1], [0, 1, 1, 2], [1, 2])
    graphs.is_map(2, 3, [0, 1], [0, 1, 1, 2], [9])
    graphs.is_map(0, 3, [0, 1], [0, 1, 1, 2], [1, 2])
    graphs.kinds(2, 3, [0, 1], [0, 1, 1, 2])
    graphs.kinds(0, 3, [0, 1], [0, 1, 1, 2])
    graphs.same(2, 2, [0, 1], [1, 0])
    graphs.same(2, 3, [0, 1], [0, 1, 1, 2])
    graphs.same(0, 3, [0, 1], [0, 1, 1, 2])
    graphs.after(2, 2, 2, [0, 1], [1, 0], [0, 1], [1, 0], [1, 0])
    graphs.after(2, 2, 2, [0, 1], [1, 0], [0, 1], [0, 1], [1, 0])
    graphs.after(2, 2, 0, [0, 1], [1, 0], [0, 1], [1, 0], [1, 0])


def fresh_graphs():
    """The module anew: in the one that other tests use, something may already be kept."""
    spec = importlib.util.spec_from_file_location("fresh_graphs", graphs.__file__)
    module = importlib.util.module_from_spec(spec)
    spec.loader.exec_module(module)
    return module


def what_is_held(module):
    """All that a call could keep something in: what the module holds, and what its functions hold."""
    names = {name: repr(value) for name, value in vars(module).items() if name != "__builtins__"}
    functions = [value for value in vars(module).values() if inspect.isfunction(value)]
    of_functions = [(repr(vars(one)), repr(one.__defaults__), repr(one.__closure__)) for one in functions]
    return names, of_functions


class Quiet(unittest.TestCase):
    def test_nothing_is_imported_printed_or_read(self):
        for file in sorted(FOLDER.rglob("*.py")):
            for node in ast.walk(ast.parse(file.read_text())):
                self.assertNotIsInstance(node, (ast.Import, ast.ImportFrom), file.name)
                if isinstance(node, ast.Name):
                    self.assertNotIn(node.id, ("print", "input", "open"), file.name)

    def test_a_call_prints_nothing(self):
        out = io.StringIO()
        with contextlib.redirect_stdout(out), contextlib.redirect_stderr(out):
            call_each(graphs)
        self.assertEqual(out.getvalue(), "")

    def test_a_call_keeps_nothing(self):
        module = fresh_graphs()
        before = what_is_held(module)
        call_each(module)
        self.assertEqual(what_is_held(module), before)


if __name__ == "__main__":
    unittest.main()
