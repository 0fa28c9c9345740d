"""The rules of form that can be counted: sizes, signs, imports and names of the package's files."""

import ast
import pathlib
import unittest

PACKAGE = pathlib.Path(__file__).resolve().parent.parent / "promptworks"
LIBRARY = {"heapq": {"heappush", "heappop", "heapify", "heapreplace", "heappushpop"},
           "math": {"gcd", "lcm", "isqrt", "comb", "perm", "factorial"},
           "itertools": {"product", "combinations", "permutations", "chain", "accumulate", "pairwise", "islice",
                         "zip_longest"},
           "collections": {"defaultdict", "deque"}}
BUILTINS = {"len", "range", "enumerate", "zip", "min", "max", "sum", "abs", "sorted", "reversed", "int", "str", "bool",
            "list", "tuple", "dict", "set", "isinstance", "ord", "repr", "any", "all", "divmod", "type", "map", "next",
            "iter", "ValueError", "KeyError", "IndexError", "LookupError", "ArithmeticError", "RuntimeError"}
DOUBLE = {"__init__", "__eq__", "__repr__", "__str__", "__len__", "__call__", "__iter__"}
FOREIGN = (ast.AsyncFunctionDef, ast.Await, ast.Div, ast.Global, ast.Starred, ast.AnnAssign, ast.Try, ast.Set)


def files():
    return sorted(PACKAGE.rglob("*.py"))


def trees():
    return [(path.name, ast.parse(path.read_text())) for path in files()]


class TestForm(unittest.TestCase):
    def test_sizes_and_signs(self):
        self.assertLess(len(files()), 100)
        for path in files():
            text = path.read_text()
            self.assertTrue(all(sign == "\n" or " " <= sign <= "~" for sign in text), path.name)
            self.assertLess(text.count("\n"), 400, path.name)
            self.assertLessEqual(max(map(len, text.split("\n"))), 120, path.name)
            self.assertTrue(text.endswith("\n"), path.name)

    def test_functions_are_small(self):
        for name, tree in trees():
            for node in ast.walk(tree):
                if isinstance(node, ast.FunctionDef):
                    self.assertLessEqual(node.end_lineno - node.lineno, 39, (name, node.name))
                    self.assertEqual(node.decorator_list, [], (name, node.name))
                    if node.name.startswith("__"):
                        self.assertIn(node.name, DOUBLE, name)

    def test_imports_name_the_very_file(self):
        defined = {}
        for path in files():
            tree = ast.parse(path.read_text())
            defined["promptworks." + path.stem] = {node.name for node in tree.body
                                                   if isinstance(node, (ast.FunctionDef, ast.ClassDef))}
        for name, tree in trees():
            for node in ast.walk(tree):
                self.assertNotIsInstance(node, ast.Import, name)
                if isinstance(node, ast.ImportFrom):
                    told = {each.name for each in node.names if each.asname is None}
                    self.assertEqual(len(told), len(node.names), name)
                    self.assertLessEqual(told, LIBRARY.get(node.module, defined.get(node.module, set())), name)

    def test_no_file_imports_itself_by_way_of_others(self):
        ahead = {}
        for path in files():
            tree = ast.parse(path.read_text())
            ahead[path.stem] = {node.module.split(".")[1] for node in ast.walk(tree)
                                if isinstance(node, ast.ImportFrom) and node.module.startswith("promptworks.")}
        while ahead:
            free = [name for name, needs in ahead.items() if not needs & set(ahead)]
            self.assertTrue(free, ahead)
            for name in free:
                del ahead[name]

    def test_no_local_name_is_that_of_an_import_or_a_class(self):
        for name, tree in trees():
            taken = {each.name for node in tree.body if isinstance(node, ast.ImportFrom) for each in node.names}
            taken |= {node.name for node in tree.body if isinstance(node, ast.ClassDef)}
            for node in ast.walk(tree):
                if isinstance(node, ast.arg):
                    self.assertNotIn(node.arg, taken, (name, node.lineno))
                if isinstance(node, ast.Name) and isinstance(node.ctx, ast.Store):
                    self.assertNotIn(node.id, taken, (name, node.lineno))

    def test_lists_alone_where_classes_compare(self):
        for name, tree in trees():
            for node in ast.walk(tree):
                self.assertNotIsInstance(node, ast.GeneratorExp, name)
                self.assertNotIsInstance(node, (ast.Yield, ast.YieldFrom), name)
                if isinstance(node, ast.Attribute):
                    self.assertNotEqual(node.attr, "sort", (name, node.lineno))

    def test_no_name_is_a_method_and_an_attribute_of_a_class(self):
        for name, tree in trees():
            for node in ast.walk(tree):
                if isinstance(node, ast.ClassDef):
                    methods = [each.name for each in node.body if isinstance(each, ast.FunctionDef)]
                    self.assertEqual(len(methods), len(set(methods)), name)
                    kept = {each.attr for each in ast.walk(node) if isinstance(each, ast.Attribute)
                            and isinstance(each.ctx, ast.Store)}
                    self.assertEqual(kept & set(methods), set(), (name, node.name))

    def test_only_the_words_that_are_let_in(self):
        python = set(dir(__builtins__) if not isinstance(__builtins__, dict) else __builtins__)
        for name, tree in trees():
            for node in ast.walk(tree):
                self.assertNotIsInstance(node, FOREIGN, (name, getattr(node, "lineno", None)))
                if isinstance(node, ast.Name) and node.id in python:
                    self.assertIn(node.id, BUILTINS, (name, node.lineno))
                if isinstance(node, ast.arg):
                    self.assertNotIn(node.arg, python, (name, node.lineno))
                if isinstance(node, ast.Constant):
                    self.assertNotIsInstance(node.value, (float, complex), (name, node.lineno))
                    self.assertNotIn("%", str(node.value), (name, node.lineno))


if __name__ == "__main__":
    unittest.main()
