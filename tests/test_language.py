"""The rules for the language of the package, as far as the files' syntax shows them."""

import ast
import builtins
import unittest
from pathlib import Path

ROOT = Path(__file__).resolve().parent.parent
PACKAGE = ROOT / "whensure"

BUILTINS = set(
    "len range enumerate zip min max sum abs sorted reversed int str bool list tuple dict set frozenset isinstance ord "
    "repr any all divmod pow map iter next getattr hasattr setattr property staticmethod classmethod super "
    "Exception ValueError TypeError KeyError IndexError LookupError ZeroDivisionError ArithmeticError OverflowError "
    "RuntimeError NotImplementedError AttributeError StopIteration NotImplemented".split()
)
LIBRARY = {
    "heapq": "heappush heappop heapify heapreplace heappushpop".split(),
    "math": "gcd lcm isqrt comb perm factorial".split(),
    "itertools": "product combinations permutations chain accumulate pairwise islice zip_longest".split(),
    "collections": ["defaultdict"],
}
METHODS = set(
    "append clear copy count endswith extend find get index insert isalnum isalpha isdigit islower isspace isupper "
    "items join keys ljust lower lstrip partition pop remove replace reverse rfind rjust rpartition rsplit rstrip "
    "setdefault split splitlines startswith strip update upper values zfill bit_length capitalize removeprefix "
    "removesuffix rindex isascii isdecimal isnumeric sort add discard __init__".split()
)
ATTRIBUTES = set("count index title find get join lower upper split strip copy add".split())
SPECIAL = set(
    "__init__ __eq__ __repr__ __str__ __len__ __enter__ __exit__ __call__ __iter__ __lt__ __le__ __gt__ __ge__ "
    "__ne__ __bool__ __contains__ __getitem__ __setitem__".split()
)
BARRED = set(
    "register mro elements open input law version_info with_traceback add_note breakpoint builtins compile copyright "
    "credits delattr dir eval exec exit gc globals help id importlib license locals methodcaller attrgetter os quit "
    "type vars sys typing enum Enum namedtuple dataclass abstractmethod".split()
)
STATEMENTS = (
    ast.Assign, ast.AugAssign, ast.AnnAssign, ast.If, ast.While, ast.For, ast.Return, ast.Break, ast.Continue,
    ast.Pass, ast.Raise, ast.Assert, ast.Delete, ast.Nonlocal, ast.Match, ast.With, ast.Try, ast.Expr,
    ast.FunctionDef, ast.ClassDef, ast.ImportFrom,
)
OF_BUILTINS = set(dir(str) + dir(int) + dir(list) + dir(dict) + dir(set) + dir(bytes) + dir(tuple))


def files():
    """Return the files of the package, in order."""
    return sorted(path for path in PACKAGE.rglob("*") if path.is_file() and "__pycache__" not in path.parts)


def module_of(path):
    """Return the full name of the module in a file."""
    parts = list(path.relative_to(ROOT).with_suffix("").parts)
    return ".".join(parts[:-1] if parts[-1] == "__init__" else parts)


def bound_in(tree):
    """Return the names that a file gives a meaning."""
    names = []
    for node in ast.walk(tree):
        if isinstance(node, ast.Name) and not isinstance(node.ctx, ast.Load):
            names.append(node.id)
        elif isinstance(node, ast.arg):
            names.append(node.arg)
        elif isinstance(node, (ast.FunctionDef, ast.ClassDef)):
            names.append(node.name)
        elif isinstance(node, ast.alias):
            names.append(node.asname or node.name)
        elif isinstance(node, ast.ExceptHandler) and node.name:
            names.append(node.name)
    return names


def defined_in(tree):
    """Return the names that a file defines at module level, without those that it imports."""
    names = [node.name for node in tree.body if isinstance(node, (ast.FunctionDef, ast.ClassDef))]
    return names + [node.targets[0].id for node in tree.body if isinstance(node, ast.Assign)]


def methods_of(tree):
    """Return the names of all methods of a file's classes."""
    return [
        node.name
        for group in ast.walk(tree) if isinstance(group, ast.ClassDef)
        for node in group.body if isinstance(node, ast.FunctionDef)
    ]


class LanguageTest(unittest.TestCase):
    @classmethod
    def setUpClass(cls):
        cls.texts = {path: path.read_bytes() for path in files()}
        cls.trees = {path: ast.parse(text) for path, text in cls.texts.items()}
        cls.own_methods = {name for tree in cls.trees.values() for name in methods_of(tree)}

    def nodes(self, *kinds):
        """Return all nodes of these kinds, each with a word that says where it is."""
        return [
            (f"{path.relative_to(ROOT)}:{getattr(node, 'lineno', 0)}", node)
            for path, tree in self.trees.items()
            for node in ast.walk(tree) if isinstance(node, kinds)
        ]

    def test_files(self):
        self.assertLessEqual(len(self.texts), 100)
        for path in self.texts:
            self.assertEqual(path.suffix, ".py", path)
            self.assertRegex(path.stem, "^[a-z][a-z0-9_]*$|^__init__$|^__main__$")
            self.assertFalse(path.with_suffix("").is_dir(), path)
            self.assertIn(path.parent / "__init__.py", self.texts)
            self.assertNotIn(path.stem, dir(builtins))

    def test_sizes_and_characters(self):
        for path, text in self.texts.items():
            self.assertLessEqual(set(text), set(range(32, 127)) | {10}, path)
            lines = text.decode("ascii").split("\n")
            self.assertLessEqual(len(lines), 399, path)
            self.assertLessEqual(max(map(len, lines)), 120, path)
        for where, node in self.nodes(ast.FunctionDef):
            self.assertLessEqual(node.end_lineno - node.lineno + 1, 40, where)

    def test_imports(self):
        defined = {module_of(path): defined_in(tree) for path, tree in self.trees.items()}
        imports = {module_of(path): [] for path in self.trees}
        for path, tree in self.trees.items():
            for node in tree.body:
                if isinstance(node, ast.ImportFrom):
                    self.assertEqual(node.level, 0, path)
                    names = [alias.name for alias in node.names]
                    known = LIBRARY.get(node.module) or defined[node.module]
                    self.assertLessEqual(set(names), set(known), path)
                    if node.module in imports:
                        imports[module_of(path)].append(node.module)
                        used = {name.id for name in ast.walk(tree) if isinstance(name, ast.Name)}
                        self.assertLessEqual(set(names), used, f"{path} imports what it does not use")
        for module in imports:
            reached, ahead = set(), list(imports[module])
            while ahead:
                other = ahead.pop()
                if other not in reached:
                    reached.add(other)
                    ahead.extend(imports[other])
            self.assertNotIn(module, reached)

    def test_module_level(self):
        for path, tree in self.trees.items():
            for node in tree.body:
                self.assertIsInstance(node, (ast.Expr, ast.ImportFrom, ast.FunctionDef, ast.ClassDef, ast.Assign))
                if isinstance(node, ast.Expr):
                    self.assertIs(node, tree.body[0], path)
                    self.assertIsInstance(node.value.value, str, path)
                if isinstance(node, ast.Assign):
                    self.assertEqual([type(target) for target in node.targets], [ast.Name], path)

    def test_statements(self):
        for where, node in self.nodes(ast.stmt):
            self.assertIsInstance(node, STATEMENTS, where)
        for where, _ in self.nodes(ast.Await):
            self.fail(where)

    def test_decorators_and_special_methods(self):
        for where, node in self.nodes(ast.ClassDef):
            self.assertEqual(node.decorator_list, [], where)
            attributes = {
                target.attr for target in ast.walk(node)
                if isinstance(target, ast.Attribute) and not isinstance(target.ctx, ast.Load)
            }
            names = [item.name for item in node.body if isinstance(item, ast.FunctionDef)]
            self.assertEqual(attributes & set(names), set(), where)
            for name in names:
                if name.startswith("__"):
                    self.assertIn(name, SPECIAL, where)
        for where, node in self.nodes(ast.FunctionDef):
            for decorator in node.decorator_list:
                self.assertIn(ast.unparse(decorator), ["property", "staticmethod", "classmethod"], where)

    def test_names(self):
        for path, tree in self.trees.items():
            given = bound_in(tree)
            functions = [node.name for node in ast.walk(tree) if isinstance(node, ast.FunctionDef)]
            for name in given:
                self.assertNotIn(name, BARRED, path)
                if name not in functions:
                    self.assertFalse(name.startswith("__"), (path, name))
                self.assertNotIn(name, dir(builtins), path)
            outer = [alias.asname or alias.name for node in tree.body if isinstance(node, ast.ImportFrom)
                     for alias in node.names]
            outer += [node.name for node in tree.body if isinstance(node, ast.ClassDef)]
            for name in outer:
                self.assertEqual(given.count(name), 1, (path, name))
            for node in ast.walk(tree):
                if isinstance(node, ast.Name) and isinstance(node.ctx, ast.Load) and node.id not in given:
                    self.assertIn(node.id, BUILTINS, path)

    def test_attributes_and_methods(self):
        stored = {node.attr for _, node in self.nodes(ast.Attribute) if not isinstance(node.ctx, ast.Load)}
        for name in stored | self.own_methods:
            self.assertNotIn(name, BARRED)
        self.assertLessEqual(stored & (OF_BUILTINS | {"sort"}), ATTRIBUTES)
        own_plain = {name for name in self.own_methods if not name.startswith("__")}
        self.assertLessEqual(own_plain & OF_BUILTINS, METHODS)
        for where, node in self.nodes(ast.Attribute):
            if isinstance(node.ctx, ast.Load):
                self.assertIn(node.attr, METHODS | self.own_methods | stored, where)

    def test_no_attribute_has_the_name_of_a_method(self):
        stored = {node.attr for _, node in self.nodes(ast.Attribute) if not isinstance(node.ctx, ast.Load)}
        self.assertEqual(stored & self.own_methods, set())

    def test_no_name_belongs_to_a_property_and_to_a_method(self):
        properties, methods = set(), set()
        for _, group in self.nodes(ast.ClassDef):
            for item in group.body:
                if isinstance(item, ast.FunctionDef):
                    (properties if item.decorator_list else methods).add(item.name)
        self.assertEqual(properties & methods, set())
        self.assertEqual(properties & OF_BUILTINS, set())

    def test_values(self):
        for where, node in self.nodes(ast.Constant):
            self.assertNotIsInstance(node.value, (float, complex), where)
            if isinstance(node.value, str):
                self.assertNotIn("%", node.value, where)
                self.assertNotIn(node.value, BARRED, where)
        for where, _ in self.nodes(ast.Div, ast.MatMult):
            self.fail(where)
        for where, node in self.nodes(ast.Compare):
            for operator, other in zip(node.ops, node.comparators):
                if isinstance(operator, (ast.Is, ast.IsNot)):
                    self.assertIn(ast.unparse(other), ["None", "True", "False"], where)

    def test_errors(self):
        for where, node in self.nodes(ast.ExceptHandler):
            self.assertIsNotNone(node.type, where)
        for where, node in self.nodes(ast.Raise):
            self.assertTrue(node.exc is None or isinstance(node.exc, ast.Call), where)


if __name__ == "__main__":
    unittest.main()
