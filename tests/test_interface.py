import inspect
import unittest

from arrowmaps import graphs

PARAMETERS = {
    "count": ["n", "m", "first", "second"],
    "nth": ["n", "m", "k", "first", "second"],
    "is_map": ["n", "m", "first", "second", "mapping"],
    "kinds": ["n", "m", "first", "second"],
    "same": ["n", "m", "first", "second"],
    "after": ["n", "m", "o", "first", "second", "third", "behind", "mapping"],
}


class Interface(unittest.TestCase):
    def test_each_call_takes_what_the_document_says(self):
        for name, parameters in PARAMETERS.items():
            taken = inspect.signature(getattr(graphs, name)).parameters.values()
            self.assertEqual([parameter.name for parameter in taken], parameters, name)
            for parameter in taken:
                self.assertEqual(parameter.kind, parameter.POSITIONAL_OR_KEYWORD, name)


if __name__ == "__main__":
    unittest.main()
