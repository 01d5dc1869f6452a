"""How the files of the package are written; the rules are those of LANGUAGE.md, by their numbers."""

import ast
import pathlib
import unittest
import warnings

PACKAGE = pathlib.Path(__file__).resolve().parent.parent / "plotfree"
FILES = sorted(path for path in PACKAGE.rglob("*") if path.is_file() and "__pycache__" not in path.parts)

BUILTINS = set("""len range enumerate zip min max sum abs sorted reversed int str bool list tuple dict set isinstance
    ord repr any all divmod pow iter next map super Exception ValueError TypeError KeyError IndexError LookupError
    ZeroDivisionError NotImplementedError""".split())
BARRED = set("""register mro elements open input law version_info with_traceback add_note attrgetter breakpoint builtins
    compile copyright credits delattr dir eval exec exit gc globals help id importlib license locals methodcaller os
    quit sys type vars hash print format filter round object float bytearray frozenset""".split())
LIBRARY = {"heapq", "math", "itertools", "collections"}
DOUBLE = {"__init__", "__eq__", "__repr__", "__str__", "__len__"}
# The interface: the names that each file defines, and the methods of each class.
INTERFACE = {
    "errors.py": {"PlotError": (), "BadPlots": (), "BadRows": (), "BadRun": ()},
    "rows.py": {"need": ("plots", "rows"), "row_at": ("rows", "place"), "outward": ("plots", "plot")},
    "store.py": {"Store": {"__init__": ("self", "plots"), "do": ("self", "row")}},
    "machine.py": {"Outcome": (), "run": ("plots", "rows", "inputs", "steps")},
    "facts.py": {"at_first": ("plots", "rows"), "wrong_by": ("plots", "row", "fact"),
                 "behind": ("plots", "row", "fact"), "ways_on": ("rows", "place")},
    "look.py": {"Wrong": (), "look": ("plots", "rows")},
    "bare.py": {"bare": ("plots", "rows", "inputs", "steps")},
}


def tree_of(path):
    return ast.parse(path.read_text(encoding="utf-8"), str(path))


def parameters(function):
    return tuple(one.arg for one in function.args.args)


class LanguageTest(unittest.TestCase):
    def test_the_folder_holds_files_of_python_alone(self):
        self.assertIn(PACKAGE / "__init__.py", FILES)
        for path in FILES:
            self.assertRegex(path.name, r"^[a-z0-9_]+\.py$")

    def test_l10_and_l14_rows_of_a_file(self):
        for path in FILES:
            data = path.read_bytes()
            self.assertTrue(all(sign == 10 or 32 <= sign <= 126 for sign in data), path)
            self.assertTrue(data.endswith(b"\n"), path)
            lines = data.decode("ascii").split("\n")[:-1]
            self.assertLessEqual(len(lines), 399, path)
            for at, line in enumerate(lines, 1):
                self.assertLessEqual(len(line), 120, f"{path}:{at}")
                self.assertEqual(line, line.rstrip(), f"{path}:{at}")

    def test_l10_functions(self):
        for path in FILES:
            for node in ast.walk(tree_of(path)):
                if isinstance(node, ast.FunctionDef):
                    self.assertLessEqual(node.end_lineno - node.lineno + 1, 40, f"{path}:{node.name}")

    def test_l27_python_gives_no_warning(self):
        with warnings.catch_warnings():
            warnings.simplefilter("error")
            for path in FILES:
                compile(path.read_text(encoding="utf-8"), str(path), "exec")

    def test_l2_and_l16_imports(self):
        for path in FILES:
            for node in ast.walk(tree_of(path)):
                self.assertNotIsInstance(node, ast.Import, path)
                if isinstance(node, ast.ImportFrom):
                    self.assertEqual(node.level, 0, path)
                    first, *rest = node.module.split(".")
                    self.assertTrue(first in LIBRARY or first == "plotfree" and len(rest) == 1, node.module)
                    self.assertNotIn("*", [one.name for one in node.names], path)

    def test_l3_module_level(self):
        for path in FILES:
            for node in tree_of(path).body:
                plain = isinstance(node, (ast.ImportFrom, ast.FunctionDef, ast.ClassDef, ast.Assign))
                text = isinstance(node, ast.Expr) and isinstance(node.value, ast.Constant)
                self.assertTrue(plain or text, f"{path}:{node.lineno}")

    def test_l6_to_l8_what_is_not_in_the_language(self):
        barred = (ast.AsyncFunctionDef, ast.Await, ast.Global, ast.Div, ast.TryStar)
        for path in FILES:
            for node in ast.walk(tree_of(path)):
                self.assertNotIsInstance(node, barred, path)
                if isinstance(node, ast.Constant):
                    self.assertNotIsInstance(node.value, (float, complex), path)
                    if isinstance(node.value, str):
                        self.assertNotIn("%", node.value, path)
                if isinstance(node, ast.Compare):
                    for sign, right in zip(node.ops, node.comparators):
                        if isinstance(sign, (ast.Is, ast.IsNot)):
                            self.assertIsInstance(right, ast.Constant, f"{path}:{node.lineno}")

    def test_l12_l15_and_l17_names(self):
        for path in FILES:
            tree = tree_of(path)
            defined = [node.name for node in ast.walk(tree) if isinstance(node, (ast.FunctionDef, ast.ClassDef))]
            assigned = [node.id for node in ast.walk(tree)
                        if isinstance(node, ast.Name) and isinstance(node.ctx, ast.Store)]
            arguments = [node.arg for node in ast.walk(tree) if isinstance(node, (ast.arg, ast.keyword))]
            attributes = [node.attr for node in ast.walk(tree) if isinstance(node, ast.Attribute)]
            for name in defined + assigned + arguments:
                self.assertFalse(name in BUILTINS or name in BARRED, f"{path}: {name}")
            for name in defined + assigned + arguments + attributes:
                self.assertTrue(name in DOUBLE or not name.startswith("__"), f"{path}: {name}")
                self.assertFalse(name.startswith(("_wall", "_pe_", "_dcw_", "_enum_", "_cm_", "_lay_", "_law_")), name)
                self.assertFalse(name in ("open", "input", "law", "register", "mro", "elements"), f"{path}: {name}")

    def test_l8_no_other_builtin_is_used(self):
        for path in FILES:
            tree = tree_of(path)
            known = {alias.name for node in ast.walk(tree) if isinstance(node, ast.ImportFrom) for alias in node.names}
            for node in ast.walk(tree):
                if isinstance(node, (ast.FunctionDef, ast.ClassDef)):
                    known.add(node.name)
                if isinstance(node, ast.arg):
                    known.add(node.arg)
                if isinstance(node, ast.Name) and isinstance(node.ctx, ast.Store):
                    known.add(node.id)
            for node in ast.walk(tree):
                if isinstance(node, ast.Name):
                    self.assertTrue(node.id in known or node.id in BUILTINS, f"{path}:{node.lineno}: {node.id}")


class InterfaceTest(unittest.TestCase):
    def test_each_name_is_defined_in_its_file(self):
        for file, names in INTERFACE.items():
            body = {node.name: node for node in tree_of(PACKAGE / file).body
                    if isinstance(node, (ast.FunctionDef, ast.ClassDef))}
            for name, wanted in names.items():
                self.assertIn(name, body)
                if isinstance(body[name], ast.FunctionDef):
                    self.assertEqual(parameters(body[name]), wanted)
                else:
                    methods = {node.name: parameters(node) for node in body[name].body
                               if isinstance(node, ast.FunctionDef)}
                    for method in wanted:
                        self.assertEqual(methods.get(method), wanted[method], f"{name}.{method}")


if __name__ == "__main__":
    unittest.main()
