"""Names, places and arguments of the interface, and some of the rules that the code keeps."""

import ast
import inspect
import pathlib
import unittest

from codewalk import (
    assembly, changes, codes, errors, flow, generate, judging, machine, marshalled, scopes, tables, telling, trees, walker,
)

ROOT = pathlib.Path(__file__).resolve().parent.parent
FILES = sorted((ROOT / "codewalk").glob("**/*.py"))

INTERFACE = {
    "errors.py": ["CodeError", "NoTree", "NoProgram", "NoCode", "NoTable", "NoBytes", "NoNumber", "NoName", "NoRows"],
    "trees.py": ["check"],
    "scopes.py": ["scopes"],
    "generate.py": ["generated"],
    "flow.py": ["flowed"],
    "tables.py": ["exception_rows", "line_rows", "exception_bytes", "line_bytes"],
    "codes.py": ["Code"],
    "assembly.py": ["assembled", "compiled"],
    "marshalled.py": ["written", "read"],
    "judging.py": ["judged"],
    "machine.py": ["run"],
    "walker.py": ["walk"],
    "changes.py": ["changed", "moved", "renamed"],
    "telling.py": ["instructions", "bytes_of"],
}


class InterfaceTests(unittest.TestCase):
    def test_each_name_is_defined_in_its_file(self):
        for file, names in INTERFACE.items():
            body = ast.parse((ROOT / "codewalk" / file).read_text()).body
            defined = [node.name for node in body if isinstance(node, (ast.FunctionDef, ast.ClassDef))]
            for name in names:
                self.assertIn(name, defined, file)

    def test_arguments_have_the_names_told(self):
        for thing, names in (
            (trees.check, "tree"), (scopes.scopes, "tree"), (generate.generated, "tree"),
            (flow.flowed, "rows head passes"), (tables.exception_rows, "code"), (tables.line_rows, "code"),
            (tables.exception_bytes, "rows"), (tables.line_bytes, "rows line"), (errors.NoProgram, "line why"),
            (assembly.assembled, "rows head codes"), (assembly.compiled, "tree passes"), (marshalled.written, "code"),
            (marshalled.read, "data"), (judging.judged, "code"), (machine.run, "code most"), (walker.walk, "tree most"),
            (changes.changed, "one other"), (changes.moved, "tree line more"), (changes.renamed, "tree number name other"),
            (telling.instructions, "code"), (telling.bytes_of, "rows"),
            (codes.Code, "argcount onlycount stacksize flags code constants names slots kinds name path line lines "
             "handlers"),
        ):
            self.assertEqual(list(inspect.signature(thing).parameters), names.split(), thing)
        for thing in (flow.flowed, assembly.compiled):
            self.assertIs(inspect.signature(thing).parameters["passes"].default, True)
        self.assertEqual(inspect.signature(assembly.assembled).parameters["codes"].default, ())

    def test_codes_are_compared_by_their_class(self):
        self.assertIn("__eq__", vars(codes.Code))


class LanguageTests(unittest.TestCase):
    def test_files_and_lines_are_short_and_plain(self):
        for path in FILES:
            text = path.read_text()
            self.assertLessEqual(len(text.split("\n")), 399, path.name)
            for line in text.split("\n"):
                self.assertLessEqual(len(line), 120, path.name)
            self.assertEqual([c for c in text if c != "\n" and not " " <= c <= "~"], [], path.name)

    def test_functions_are_short(self):
        for path in FILES:
            for node in ast.walk(ast.parse(path.read_text())):
                if isinstance(node, ast.FunctionDef):
                    self.assertLessEqual(node.end_lineno - node.lineno + 1, 40, node.name)

    def test_imports_are_of_the_package_alone(self):
        for path in FILES:
            for node in ast.walk(ast.parse(path.read_text())):
                self.assertNotIsInstance(node, (ast.Import, ast.Global))
                if isinstance(node, ast.ImportFrom):
                    self.assertTrue(node.module.startswith("codewalk.") or node.module == "heapq", path.name)

    def test_strings_have_plain_characters(self):
        for path in FILES:
            for node in ast.walk(ast.parse(path.read_text())):
                if isinstance(node, ast.Constant) and isinstance(node.value, str):
                    self.assertNotIn("%", node.value, path.name)


if __name__ == "__main__":
    unittest.main()
