"""The rules of LANGUAGE.md that a short look at the files of the package can tell."""

import ast
import builtins
import pathlib
import re
import unittest

FOLDER = pathlib.Path(__file__).resolve().parent.parent / "onlythedirt"
BUILTINS = set(
    "len range enumerate zip min max sum abs sorted reversed int str bool bytes list tuple dict set frozenset "
    "isinstance ord repr any all divmod pow getattr hasattr setattr iter next map Exception ValueError TypeError "
    "KeyError IndexError LookupError ZeroDivisionError ArithmeticError OverflowError RuntimeError "
    "NotImplementedError AttributeError StopIteration NotImplemented property staticmethod classmethod super".split()
)
LIBRARY = {"heapq", "math", "itertools", "collections"}
DECORATORS = {"property", "staticmethod", "classmethod"}
AT_MODULE_LEVEL = (ast.ImportFrom, ast.FunctionDef, ast.ClassDef, ast.Assign, ast.Expr)
NOT_ALLOWED = (ast.Div, ast.Global, ast.Import, ast.AsyncFunctionDef, ast.AsyncFor, ast.AsyncWith, ast.Await)


class LanguageTest(unittest.TestCase):
    def files(self):
        return sorted(FOLDER.rglob("*.py"))

    def trees(self):
        return [(file.name, ast.parse(file.read_text("ascii"))) for file in self.files()]

    def test_the_folder_contains_only_files_of_python(self):
        for path in FOLDER.rglob("*"):
            if "__pycache__" not in path.parts:
                self.assertRegex(path.name, r"\A[a-z_0-9]+\.py\Z")

    def test_sizes_and_characters(self):
        for file in self.files():
            text = file.read_text("utf-8")
            self.assertEqual(re.findall(r"[^ -~\n]", text), [], file.name)
            lines = text.split("\n")
            self.assertLessEqual(len(lines), 399, file.name)
            self.assertLessEqual(max(len(line) for line in lines), 120, file.name)

    def test_functions_are_short(self):
        for name, tree in self.trees():
            for node in ast.walk(tree):
                if isinstance(node, ast.FunctionDef):
                    self.assertLessEqual(node.end_lineno - node.lineno + 1, 40, (name, node.name))

    def test_decorators(self):
        for name, tree in self.trees():
            for node in ast.walk(tree):
                for decorator in getattr(node, "decorator_list", []):
                    word = ast.unparse(decorator)
                    self.assertTrue(word in DECORATORS or word.endswith(".setter"), (name, word))

    def test_imports_are_from_the_package(self):
        for name, tree in self.trees():
            for node in ast.walk(tree):
                if isinstance(node, ast.ImportFrom):
                    self.assertEqual(node.level, 0, name)
                    self.assertIn(node.module.split(".")[0], LIBRARY | {"onlythedirt"}, name)
                    self.assertNotIn("*", [alias.name for alias in node.names], name)

    def test_module_level(self):
        for name, tree in self.trees():
            for node in tree.body:
                self.assertIsInstance(node, AT_MODULE_LEVEL, name)
                if isinstance(node, ast.Expr):
                    self.assertIsInstance(node.value, ast.Constant, name)

    def test_nothing_that_is_not_allowed(self):
        for name, tree in self.trees():
            for node in ast.walk(tree):
                self.assertNotIsInstance(node, NOT_ALLOWED, (name, getattr(node, "lineno", None)))
                if isinstance(node, ast.Constant):
                    self.assertNotIsInstance(node.value, (float, complex), name)
                    if isinstance(node.value, str):
                        self.assertNotIn("%", node.value, name)

    def test_each_name_is_bound_once_at_module_level(self):
        for name, tree in self.trees():
            names = self.imported(tree)
            for node in tree.body:
                if isinstance(node, (ast.FunctionDef, ast.ClassDef)):
                    names.append(node.name)
                if isinstance(node, ast.Assign):
                    names.extend(target.id for target in node.targets)
            self.assertEqual(len(names), len(set(names)), name)

    def test_no_other_name_is_that_of_an_import_or_a_class(self):
        for name, tree in self.trees():
            taken = self.imported(tree) + [node.name for node in tree.body if isinstance(node, ast.ClassDef)]
            for node in ast.walk(tree):
                if isinstance(node, ast.arg):
                    self.assertNotIn(node.arg, taken, (name, node.lineno))
                if isinstance(node, ast.Name) and isinstance(node.ctx, ast.Store):
                    self.assertNotIn(node.id, taken, (name, node.lineno))
                if isinstance(node, (ast.MatchAs, ast.MatchStar)):
                    self.assertNotIn(node.name, taken, (name, node.lineno))

    def imported(self, tree):
        return [alias.name for node in tree.body if isinstance(node, ast.ImportFrom) for alias in node.names]

    def test_imports_name_the_file_that_defines_the_name(self):
        defined = {}
        for name, tree in self.trees():
            for node in tree.body:
                if isinstance(node, (ast.FunctionDef, ast.ClassDef)):
                    defined[node.name, name] = True
                if isinstance(node, ast.Assign):
                    defined[node.targets[0].id, name] = True
        for name, tree in self.trees():
            for node in tree.body:
                if isinstance(node, ast.ImportFrom) and node.module.startswith("onlythedirt"):
                    for alias in node.names:
                        self.assertIn((alias.name, node.module.partition(".")[2] + ".py"), defined, name)

    def test_no_two_files_import_from_each_other(self):
        needs = {
            name[:-3]: {node.module.partition(".")[2] for node in tree.body if isinstance(node, ast.ImportFrom)}
            for name, tree in self.trees()
        }
        while needs:
            free = [name for name, others in needs.items() if not others & set(needs)]
            self.assertNotEqual(free, [], needs)
            needs = {name: others for name, others in needs.items() if name not in free}

    def test_alternatives_in_patterns_capture_nothing(self):
        for name, tree in self.trees():
            for node in ast.walk(tree):
                if isinstance(node, ast.MatchOr):
                    for inner in ast.walk(node):
                        self.assertNotIsInstance(inner, (ast.MatchAs, ast.MatchStar), (name, node.lineno))

    def test_captured_names_are_bound_by_their_cases_alone(self):
        for name, tree in self.trees():
            for function in ast.walk(tree):
                if isinstance(function, ast.FunctionDef):
                    nodes = list(ast.walk(function))
                    captured = {node.name for node in nodes if isinstance(node, (ast.MatchAs, ast.MatchStar))}
                    arguments = {node.arg for node in nodes if isinstance(node, ast.arg)}
                    names = [node for node in nodes if isinstance(node, ast.Name)]
                    assigned = {node.id for node in names if isinstance(node.ctx, ast.Store)}
                    self.assertEqual(captured & (arguments | assigned), set(), (name, function.name))

    def test_builtins(self):
        for name, tree in self.trees():
            for node in ast.walk(tree):
                if isinstance(node, ast.Name) and hasattr(builtins, node.id):
                    self.assertIn(node.id, BUILTINS, (name, node.lineno))
                    self.assertIsInstance(node.ctx, ast.Load, (name, node.lineno))
                if isinstance(node, ast.arg):
                    self.assertFalse(hasattr(builtins, node.arg), (name, node.lineno))


if __name__ == "__main__":
    unittest.main()
