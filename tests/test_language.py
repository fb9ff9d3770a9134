"""The package's files: the subset of the language, as far as a plain look at them can tell."""

import ast
import builtins
import unittest
from pathlib import Path

from tests.interface import names_by_file

PACKAGE = Path(__file__).resolve().parent.parent / "pagestrue"
MOST_LINES, MOST_OF_ONE, MOST_SIGNS = 399, 40, 120
ALLOWED = {"len", "range", "enumerate", "zip", "min", "max", "sum", "abs", "sorted", "reversed", "int",
           "str", "bool", "list", "tuple", "dict", "set", "isinstance", "ord", "any", "all", "divmod",
           "repr", "ValueError"}
METHODS = {"append", "clear", "copy", "count", "endswith", "extend", "find", "get", "index", "insert",
           "isalnum", "isalpha", "isdigit", "items", "join", "keys", "pop", "remove", "replace",
           "reverse", "rfind", "rpartition", "partition", "setdefault", "split", "startswith", "strip",
           "update", "values", "ljust", "__init__"}
LIBRARY = {"itertools": {"combinations", "permutations", "product", "chain"}, "math": {"gcd", "comb"}}
BARRED = {"type", "typing", "enum", "Enum", "Flag", "Generic", "Protocol", "ABC", "namedtuple", "register",
          "elements", "open", "input", "law", "mro", "dataclass", "overload", "contextmanager"}
NODES = (ast.GeneratorExp, ast.Yield, ast.YieldFrom, ast.Global, ast.Nonlocal, ast.Try,
         ast.With, ast.AsyncFunctionDef, ast.Await, ast.NamedExpr, ast.JoinedStr, ast.Starred, ast.Assert,
         ast.Delete, ast.Div, ast.Pow, ast.AnnAssign, ast.Match)


def files():
    return sorted(path for path in PACKAGE.iterdir() if path.name != "__pycache__")


def tree_of(path):
    return ast.parse(path.read_text(encoding="utf-8"))


def defined(tree):
    return {node.name for node in tree.body if isinstance(node, (ast.FunctionDef, ast.ClassDef))}


def imports(tree):
    return [node for node in ast.walk(tree) if isinstance(node, (ast.Import, ast.ImportFrom))]


class LanguageTest(unittest.TestCase):
    def each(self):
        return [(path, tree_of(path)) for path in files()]

    def test_files(self):
        for path in files():
            self.assertEqual(path.suffix, ".py")
            text = path.read_text(encoding="utf-8")
            lines = text.split("\n")
            self.assertLessEqual(len(lines), MOST_LINES, path)
            self.assertTrue(all(" " <= sign <= "~" or sign == "\n" for sign in text), path)
            self.assertLessEqual(max(map(len, lines)), MOST_SIGNS, path)

    def test_interface(self):
        for name, words in names_by_file().items():
            self.assertLessEqual(set(words), defined(tree_of(PACKAGE / (name + ".py"))), name)

    def test_module_level(self):
        for path, tree in self.each():
            for node in tree.body:
                kinds = (ast.FunctionDef, ast.ClassDef, ast.ImportFrom, ast.Assign, ast.Expr)
                self.assertIsInstance(node, kinds, path)
                if isinstance(node, ast.Expr):
                    self.assertIs(node, tree.body[0], path)
                if isinstance(node, ast.Assign):
                    ast.literal_eval(node.value)

    def test_imports(self):
        wanted = {}
        for path, tree in self.each():
            wanted[path.stem] = []
            for node in imports(tree):
                self.assertIsInstance(node, ast.ImportFrom, path)
                self.assertIn(node, tree.body)
                names = {one.name for one in node.names}
                self.assertTrue(all(one.asname is None for one in node.names))
                if node.module in LIBRARY:
                    self.assertLessEqual(names, LIBRARY[node.module])
                    continue
                package, _, module = node.module.partition(".")
                self.assertEqual(package, "pagestrue", path)
                its = tree_of(PACKAGE / (module + ".py"))
                constants = {one.id for row in its.body if isinstance(row, ast.Assign)
                             for one in row.targets}
                self.assertLessEqual(names, defined(its) | constants, path)
                wanted[path.stem].append(module)
                used = {one.id for one in ast.walk(tree) if isinstance(one, ast.Name)}
                self.assertLessEqual(names, used, path)
        while wanted:
            ready = [name for name in wanted if not set(wanted[name]) & set(wanted)]
            self.assertTrue(ready, wanted)
            for name in ready:
                del wanted[name]

    def test_functions(self):
        for path, tree in self.each():
            for node in ast.walk(tree):
                if isinstance(node, (ast.FunctionDef, ast.ClassDef)):
                    self.assertEqual(node.decorator_list, [])
                if isinstance(node, ast.FunctionDef):
                    self.assertLessEqual(node.end_lineno - node.lineno + 1, MOST_OF_ONE, node.name)
                    self.assertTrue(ast.get_docstring(node) or node.name.startswith("__"), node.name)

    def test_words_and_kinds(self):
        for path, tree in self.each():
            for node in ast.walk(tree):
                self.assertNotIsInstance(node, NODES, path)
                if isinstance(node, ast.Constant):
                    self.assertNotIsInstance(node.value, (float, complex, bytes), path)
                    self.assertNotIn("%", str(node.value), path)
                if isinstance(node, ast.Compare):
                    for sign, other in zip(node.ops, node.comparators):
                        if isinstance(sign, (ast.Is, ast.IsNot)):
                            self.assertIsInstance(other, ast.Constant, path)

    def bound(self, tree):
        """All names of parameters and variables."""
        for node in ast.walk(tree):
            if isinstance(node, ast.arg):
                yield node.arg
            elif isinstance(node, ast.Name) and isinstance(node.ctx, ast.Store):
                yield node.id

    def test_names(self):
        everywhere = set(dir(builtins))
        for path, tree in self.each():
            names = set(self.bound(tree)) | defined(tree)
            taken = {one.name for node in imports(tree) for one in node.names}
            taken |= {node.name for node in tree.body if isinstance(node, ast.ClassDef)}
            self.assertFalse(set(self.bound(tree)) & taken, path)
            self.assertFalse(names & (everywhere | BARRED) - {"_"}, path)
            words = {node.attr for node in ast.walk(tree) if isinstance(node, ast.Attribute)}
            self.assertFalse(words & BARRED, path)

    def test_calls(self):
        own = set()
        for _, tree in self.each():
            own |= {node.name for node in ast.walk(tree) if isinstance(node, ast.FunctionDef)}
        for path, tree in self.each():
            for node in ast.walk(tree):
                if isinstance(node, ast.Call) and isinstance(node.func, ast.Attribute):
                    self.assertIn(node.func.attr, METHODS | own, path)
                if isinstance(node, ast.Name) and hasattr(builtins, node.id):
                    self.assertIn(node.id, ALLOWED, path)

    def test_sets_are_not_kept(self):
        for path, tree in self.each():
            fit = []
            for node in ast.walk(tree):
                if isinstance(node, ast.Call) and isinstance(node.func, ast.Name):
                    if node.func.id in ("sorted", "len"):
                        fit.extend(node.args)
            for node in ast.walk(tree):
                self.assertNotIsInstance(node, (ast.Set, ast.SetComp), path)
                if isinstance(node, ast.Call) and isinstance(node.func, ast.Name):
                    if node.func.id == "set":
                        self.assertIn(node, fit, path)

    def test_methods_are_no_attributes(self):
        methods, attributes = set(), set()
        for _, tree in self.each():
            for node in ast.walk(tree):
                if isinstance(node, ast.ClassDef):
                    methods |= {one.name for one in node.body if isinstance(one, ast.FunctionDef)}
                if isinstance(node, ast.Attribute) and isinstance(node.ctx, ast.Store):
                    attributes.add(node.attr)
        self.assertFalse(methods & attributes)


if __name__ == "__main__":
    unittest.main()
