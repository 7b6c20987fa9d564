"""What of LANGUAGE.md can be seen without running the package: files, sizes, signs, imports and words."""

import ast
import os
import unittest

ROOT = os.path.dirname(os.path.dirname(os.path.abspath(__file__)))
FOLDER = os.path.join(ROOT, "wholedrops")
LIBRARY = ("heapq", "math", "itertools", "collections", "__future__")
BARRED = ("type", "eval", "exec", "open", "input", "print", "round", "hash", "id", "chr", "float")


def sources():
    found = {}
    for name in sorted(os.listdir(FOLDER)):
        if name.endswith(".py"):
            with open(os.path.join(FOLDER, name), encoding="utf-8") as file:
                found[name] = file.read()
    return found


class LanguageTest(unittest.TestCase):
    def test_the_folder_holds_python_files_alone(self):
        names = [name for name in os.listdir(FOLDER) if name != "__pycache__"]
        self.assertIn("__init__.py", names)
        for name in names:
            self.assertTrue(name.endswith(".py") and name == name.lower(), name)

    def test_plain_signs(self):
        for name, text in sources().items():
            self.assertTrue(all(sign == "\n" or " " <= sign <= "~" for sign in text), name)

    def test_sizes(self):
        for name, text in sources().items():
            lines = text.splitlines()
            self.assertLessEqual(len(lines), 399, name)
            self.assertLessEqual(max([len(line) for line in lines], default=0), 120, name)
            for node in ast.walk(ast.parse(text)):
                if isinstance(node, ast.FunctionDef):
                    self.assertLessEqual(node.end_lineno - node.lineno + 1, 40, f"{name} {node.name}")

    def test_imports(self):
        for name, text in sources().items():
            for node in ast.walk(ast.parse(text)):
                self.assertNotIsInstance(node, ast.Import, name)
                if isinstance(node, ast.ImportFrom):
                    self.assertEqual(node.level, 0, name)
                    self.assertTrue(node.module in LIBRARY or node.module.startswith("wholedrops."), name)

    def test_no_floats_and_no_division(self):
        for name, text in sources().items():
            for node in ast.walk(ast.parse(text)):
                self.assertNotIsInstance(node, ast.Div, name)
                if isinstance(node, ast.Constant):
                    self.assertNotIsInstance(node.value, (float, complex), name)
                    self.assertFalse(isinstance(node.value, str) and "%" in node.value, name)

    def test_words(self):
        for name, text in sources().items():
            for node in ast.walk(ast.parse(text)):
                self.assertNotIsInstance(node, (ast.Global, ast.AsyncFunctionDef), name)
                if isinstance(node, ast.Name):
                    self.assertNotIn(node.id, BARRED, name)

    def test_decorators_are_properties_alone(self):
        for name, text in sources().items():
            for node in ast.walk(ast.parse(text)):
                for decorator in getattr(node, "decorator_list", []):
                    told = ast.unparse(decorator)
                    self.assertTrue(told == "property" or told == node.name + ".setter", f"{name} {told}")

    def test_no_name_is_a_property_and_a_plain_attribute(self):
        properties, own = set(), {}
        for text in sources().values():
            for node in ast.walk(ast.parse(text)):
                if isinstance(node, ast.ClassDef):
                    methods = [one for one in node.body if isinstance(one, ast.FunctionDef)]
                    properties |= {one.name for one in methods if one.decorator_list}
                    own[node.name] = [ast.unparse(base) for base in node.bases], {one.name for one in methods}, {
                        one.attr for one in ast.walk(node)
                        if isinstance(one, ast.Attribute) and isinstance(one.ctx, ast.Store)}
        for name, (bases, methods, stored) in own.items():
            for base in bases:
                methods = methods | own.get(base, ([], set(), set()))[1]
            self.assertEqual(stored & properties, methods & properties & stored, name)
            self.assertEqual((stored & methods) - properties, set(), name)

    def test_generators_are_not_summed(self):
        for name, text in sources().items():
            for node in ast.walk(ast.parse(text)):
                self.assertNotIsInstance(node, ast.GeneratorExp, name)

    def test_no_two_files_import_from_each_other(self):
        imports = {}
        for name, text in sources().items():
            found = [node.module for node in ast.walk(ast.parse(text)) if isinstance(node, ast.ImportFrom)]
            imports["wholedrops." + name[:-3]] = [module for module in found if module.startswith("wholedrops.")]
        while imports:
            free = [name for name, needs in imports.items() if not any(need in imports for need in needs)]
            self.assertTrue(free, sorted(imports))
            imports = {name: needs for name, needs in imports.items() if name not in free}


if __name__ == "__main__":
    unittest.main()
