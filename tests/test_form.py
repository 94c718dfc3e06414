"""The package has the form that is asked of it: files, interface, sizes, signs, imports."""

import ast
import unittest
from pathlib import Path

PACKAGE = Path(__file__).resolve().parent.parent / "whichbroke"

INTERFACE = {
    "errors.py": ["WorkError", "BadWork", "BadGiven", "BadLook", "BadSet", "HasRoom", "NoLine", "NoLook", "BadText"],
    "works.py": ["need_work", "given_of", "need_given", "need_look", "need_set"],
    "running.py": ["ran"],
    "rooms.py": ["room", "rooms", "shown"],
    "leastsets.py": ["least_sets"],
    "clashing.py": ["clash", "clashes"],
    "searching.py": ["Search"],
    "notes.py": ["written", "read"],
}

PARAMETERS = {
    "need_work": ["thing"], "given_of": ["part", "digits", "ring"], "need_given": ["work", "thing"],
    "need_look": ["work", "thing"], "need_set": ["work", "thing"], "ran": ["work", "given", "told"],
    "room": ["work", "look", "broken"], "rooms": ["work", "looks", "broken"],
    "shown": ["work", "look", "broken", "line"], "least_sets": ["work", "looks"],
    "clash": ["work", "looks", "broken"], "clashes": ["work", "looks"], "written": ["work"], "read": ["text"],
}

METHODS = {
    "__init__": ["self", "work"], "look": ["self", "given", "seen"], "see": ["self", "number", "line", "digit"],
    "back": ["self"], "looks": ["self"], "sets": ["self"], "next_line": ["self", "number"],
}

LIBRARY = {"itertools": {"combinations", "permutations", "product"}}


def files():
    """All files of the package but what Python itself puts there."""
    return sorted(path for path in PACKAGE.rglob("*") if path.is_file() and "__pycache__" not in path.parts)


class FormTest(unittest.TestCase):

    def test_the_package_holds_python_files_only(self):
        self.assertEqual([path for path in files() if path.suffix != ".py" or path.parent != PACKAGE], [])
        self.assertTrue((PACKAGE / "__init__.py").is_file())

    def test_the_interface_is_defined_where_it_is_listed(self):
        for name, listed in INTERFACE.items():
            tree = ast.parse((PACKAGE / name).read_text("utf-8"))
            defined = {node.name: node for node in tree.body if isinstance(node, (ast.FunctionDef, ast.ClassDef))}
            for word in listed:
                self.assertIn(word, defined, name)
                if word in PARAMETERS:
                    self.assertEqual([each.arg for each in defined[word].args.args], PARAMETERS[word])

    def test_each_method_of_a_search_is_defined_in_its_class(self):
        tree = ast.parse((PACKAGE / "searching.py").read_text("utf-8"))
        bodies = [node.body for node in tree.body if isinstance(node, ast.ClassDef) and node.name == "Search"]
        self.assertEqual(len(bodies), 1)
        defined = {node.name: [each.arg for each in node.args.args]
                   for node in bodies[0] if isinstance(node, ast.FunctionDef)}
        for name, parameters in METHODS.items():
            self.assertEqual(defined.get(name), parameters, name)

    def test_sizes_and_signs(self):
        for path in files():
            text = path.read_text("utf-8")
            rows = text.split("\n")
            self.assertLessEqual(len(rows), 399, path)
            self.assertLessEqual(max(len(row) for row in rows), 120, path)
            self.assertEqual([sign for sign in text if sign != "\n" and not " " <= sign <= "~"], [], path)
            for node in ast.walk(ast.parse(text)):
                if isinstance(node, ast.FunctionDef):
                    self.assertLessEqual(node.end_lineno - node.lineno + 1, 40, (path, node.name))

    def test_imports_come_from_the_package_by_full_names(self):
        for path in files():
            for node in ast.walk(ast.parse(path.read_text("utf-8"))):
                self.assertNotIsInstance(node, ast.Import, path)
                if isinstance(node, ast.ImportFrom):
                    self.assertEqual(node.level, 0, path)
                    if node.module in LIBRARY:
                        self.assertLessEqual({each.name for each in node.names}, LIBRARY[node.module], path)
                    else:
                        self.assertTrue(node.module.startswith("whichbroke."), path)


if __name__ == "__main__":
    unittest.main()
