"""The rules for the files of the package that can be seen without running them."""

import ast
import builtins
import pathlib
import re
import unittest

PACKAGE = pathlib.Path(__file__).resolve().parent.parent / "meetrounds"
FILES = sorted(path for path in PACKAGE.rglob("*") if "__pycache__" not in path.parts and path.is_file())

LIBRARY = {"heapq", "math", "itertools", "collections"}
BUILTINS = set(
    "len range enumerate zip min max sum abs sorted reversed int str bool bytes list tuple dict set frozenset "
    "isinstance ord repr any all divmod pow getattr hasattr setattr iter next map super property staticmethod "
    "classmethod Exception ValueError TypeError KeyError IndexError LookupError ZeroDivisionError ArithmeticError "
    "OverflowError RuntimeError NotImplementedError AttributeError StopIteration NotImplemented".split()
)
DECORATORS = re.compile(r"property|classmethod|staticmethod|[a-z_]+\.setter")
STATEMENTS_BARRED = (
    ast.Global, ast.AsyncFunctionDef, ast.AsyncFor, ast.AsyncWith, ast.Import, ast.Await, ast.Div, ast.MatMult,
    # Beside a class with __eq__, `any`, `sum` and the like take lists.
    ast.GeneratorExp, ast.Yield, ast.YieldFrom,
)
OPERATORS = {
    "__contains__": ["self"], "__getitem__": ["self"], "__setitem__": ["self"], "__iter__": ["self"],
    "__bool__": ["self"], "__len__": ["self"], "__eq__": ["self", "other"], "__str__": ["self"], "__enter__": ["self"],
    "__exit__": ["self", "kind", "value", "trace"], "__init__": ["self"],
}


def bound_names(tree):
    """The names that a file gives to variables, functions, classes, parameters and imports."""
    for node in ast.walk(tree):
        if isinstance(node, ast.Name) and not isinstance(node.ctx, ast.Load):
            yield node.id
        if isinstance(node, (ast.FunctionDef, ast.ClassDef)):
            yield node.name
        if isinstance(node, ast.arg):
            yield node.arg
        if isinstance(node, ast.alias):
            yield node.asname or node.name


class RulesTest(unittest.TestCase):
    def each_file(self, check):
        for path in FILES:
            with self.subTest(file=path.name):
                check(path, ast.parse(path.read_text(encoding="utf-8")))

    def test_files_and_characters(self):
        self.assertTrue(FILES)
        for path in FILES:
            with self.subTest(file=path.name):
                self.assertRegex(path.name, r"\A[a-z_][a-z0-9_]*\.py\Z")
                self.assertRegex(path.read_text(encoding="utf-8"), r"\A[\n -~]*\Z")
                self.assertTrue((path.parent / "__init__.py").is_file())

    def test_sizes(self):
        self.each_file(self.check_sizes)

    def check_sizes(self, path, tree):
        lines = path.read_text(encoding="utf-8").split("\n")
        self.assertLessEqual(len(lines), 399)
        self.assertLessEqual(max(map(len, lines)), 120)
        for node in ast.walk(tree):
            if isinstance(node, ast.FunctionDef):
                self.assertLessEqual(node.end_lineno - node.lineno + 1, 40, node.name)

    def test_imports(self):
        self.each_file(self.check_imports)

    def check_imports(self, _, tree):
        for node in ast.walk(tree):
            if isinstance(node, ast.ImportFrom):
                self.assertEqual(0, node.level)
                self.assertIn(node, tree.body)
                if node.module not in LIBRARY:
                    self.assertRegex(node.module, r"\Ameetrounds\.[a-z_]+\Z")
                    for alias in node.names:
                        self.check_defined(node.module, alias.name)

    def check_defined(self, module, name):
        body = ast.parse((PACKAGE / (module.split(".")[1] + ".py")).read_text(encoding="utf-8")).body
        defined = [node.name for node in body if isinstance(node, (ast.FunctionDef, ast.ClassDef))]
        assigned = [node.targets[0].id for node in body if isinstance(node, ast.Assign)]
        self.assertIn(name, defined + assigned)

    def test_no_file_imports_itself_through_others(self):
        needs = {}
        for path in FILES:
            tree = ast.parse(path.read_text(encoding="utf-8"))
            modules = [node.module for node in tree.body if isinstance(node, ast.ImportFrom)]
            needs[path.stem] = [module.split(".")[1] for module in modules if module.startswith("meetrounds.")]
        while needs:
            free = [name for name, others in needs.items() if not set(others) & set(needs)]
            self.assertTrue(free, needs)
            needs = {name: others for name, others in needs.items() if name not in free}

    def test_names_are_bound_once(self):
        self.each_file(self.check_names)

    def check_names(self, _, tree):
        shared = [alias.name for node in tree.body if isinstance(node, ast.ImportFrom) for alias in node.names]
        shared += [node.name for node in tree.body if isinstance(node, (ast.ClassDef, ast.FunctionDef))]
        bound = [name for name in bound_names(tree) if name in shared]
        methods = [part.name for node in tree.body if isinstance(node, ast.ClassDef) for part in node.body
                   if isinstance(part, ast.FunctionDef) and part.name in shared]
        self.assertEqual(sorted(shared + methods), sorted(bound))

    def test_statements_and_literals(self):
        self.each_file(self.check_statements_and_literals)

    def check_statements_and_literals(self, _, tree):
        for node in ast.walk(tree):
            self.assertNotIsInstance(node, STATEMENTS_BARRED)
            if isinstance(node, (ast.FunctionDef, ast.ClassDef)):
                for decorator in node.decorator_list:
                    self.assertRegex(ast.unparse(decorator), DECORATORS)
            if isinstance(node, ast.Constant):
                self.assertNotIsInstance(node.value, (float, complex))
                self.assertNotIn("%", str(node.value))

    def test_double_underscore_methods(self):
        self.each_file(self.check_double_underscore_methods)

    def check_double_underscore_methods(self, _, tree):
        for node in ast.walk(tree):
            if isinstance(node, ast.FunctionDef) and node.name.startswith("__"):
                begin = OPERATORS[node.name]
                self.assertEqual(begin, [parameter.arg for parameter in node.args.args][:len(begin)])
                if node.name == "__exit__":
                    self.check_exit(node.body)

    def check_exit(self, rows):
        """What puts back at the end of a block only asks for the kind of exception and assigns names and attributes."""
        for row in rows:
            if isinstance(row, ast.If):
                self.assertEqual(("kind is not None", []), (ast.unparse(row.test), row.orelse))
                self.check_exit(row.body)
            else:
                self.assertRegex(ast.unparse(row), r"\A[a-z.]+ = self\.[a-z.]+\Z")

    def test_builtins(self):
        self.each_file(self.check_builtins)

    def check_builtins(self, _, tree):
        known = set(dir(builtins))
        used = {node.id for node in ast.walk(tree) if isinstance(node, ast.Name)}
        self.assertEqual(set(), (used & known) - BUILTINS)
        self.assertEqual(set(), known & set(bound_names(tree)))


if __name__ == "__main__":
    unittest.main()
