"""What the document's interface and the rules of the language say of the package's files, as far as it is simple."""

import ast
import pathlib
import unittest

PACKAGE = pathlib.Path(__file__).resolve().parent.parent / "ziggurat"

INTERFACE = {
    "errors.py": {"ZigguratError": None, "LimitError": None, "FormError": None, "ParseError": None},
    "forms.py": {"is_well_formed": ["program"], "size": ["program"], "height": ["program"]},
    "texts.py": {"parse": ["text"], "print_program": ["program"]},
    "tower.py": {"run": ["program", "fuel"]},
    "plain.py": {"run_plain": ["plain", "fuel"], "plain_size": ["plain"]},
    "collapsing.py": {"collapse": ["program"]},
    "judge.py": {"is_collapse": ["program", "plain"]},
    "compiler.py": {"compile_plain": ["plain"]},
    "machine.py": {"run_code": ["code", "fuel"]},
}


def files():
    return [path for path in sorted(PACKAGE.iterdir()) if path.name != "__pycache__"]


class PackageTest(unittest.TestCase):
    def test_interface_is_defined_in_its_files(self):
        for name, wanted in INTERFACE.items():
            found = {}
            for node in ast.parse((PACKAGE / name).read_text()).body:
                if isinstance(node, ast.FunctionDef):
                    found[node.name] = [arg.arg for arg in node.args.args]
                elif isinstance(node, ast.ClassDef):
                    found[node.name] = None
            for word, arguments in wanted.items():
                self.assertIn(word, found)
                self.assertEqual(found[word], arguments, word)

    def test_only_python_files(self):
        names = [path.name for path in files()]
        self.assertIn("__init__.py", names)
        for name in names:
            self.assertRegex(name, r"\A[a-z0-9_]+\.py\Z")

    def test_sizes_and_characters(self):
        for path in files():
            text = path.read_text()
            lines = text.split("\n")
            self.assertLess(len(lines), 400, path.name)
            self.assertLessEqual(max(len(line) for line in lines), 120, path.name)
            self.assertTrue(all(c == "\n" or " " <= c <= "~" for c in text), path.name)
            for node in ast.walk(ast.parse(text)):
                if isinstance(node, ast.FunctionDef):
                    self.assertLessEqual(node.end_lineno - node.lineno + 1, 40, (path.name, node.name))

    def test_imports(self):
        for path in files():
            for node in ast.walk(ast.parse(path.read_text())):
                self.assertNotIsInstance(node, ast.Import, path.name)
                if isinstance(node, ast.ImportFrom):
                    self.assertTrue(node.module.startswith("ziggurat."), (path.name, node.module))


if __name__ == "__main__":
    unittest.main()
