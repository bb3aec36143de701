"""The package's files keep to the small part of Python that they are written in (LANGUAGE.md, its rules by number)."""

import ast
import builtins
import pathlib
import re
import unittest

PACKAGE = pathlib.Path(__file__).resolve().parent.parent / "netshares"

# What the program has no use for (errors, lambdas, f-strings, dicts, sets) isn't let in, so that what the rules
# say of it (L2, L13, L16, L19, L24) needs no test of its own.
STATEMENTS = (
    ast.Assign, ast.AugAssign, ast.If, ast.While, ast.For, ast.Return, ast.Break, ast.Continue, ast.Pass, ast.Expr,
    ast.FunctionDef, ast.ClassDef,
)
EXPRESSIONS = (
    ast.Constant, ast.List, ast.Tuple, ast.BinOp, ast.UnaryOp, ast.BoolOp, ast.Compare, ast.IfExp, ast.Call,
    ast.Attribute, ast.Subscript, ast.Slice, ast.ListComp, ast.Name,
)
CHANGES = ("append", "clear", "extend", "insert", "pop", "remove", "reverse", "setdefault", "update")
OWN_NAMES = set(
    "len range enumerate zip min max sum abs sorted reversed int str bool list tuple dict set frozenset isinstance ord "
    "repr any all divmod Exception ValueError TypeError KeyError IndexError LookupError ZeroDivisionError "
    "ArithmeticError OverflowError RuntimeError NotImplementedError AttributeError StopIteration".split()
)
OWN_METHODS = set(
    "append clear copy count endswith extend find get index insert isalnum isalpha isdigit islower isspace isupper "
    "items join keys ljust lower lstrip partition pop remove replace reverse rfind rjust rpartition rsplit rstrip "
    "setdefault split splitlines startswith strip update upper values zfill bit_length".split()
)
DUNDER_METHODS = {"__init__", "__eq__", "__repr__", "__str__", "__len__"}
UNUSED_NAMES = set(
    "register mro elements open input version_info with_traceback add_note attrgetter breakpoint builtins compile "
    "copyright credits delattr dir eval exec exit gc getattr globals hasattr help id importlib license locals "
    "methodcaller os quit setattr super type vars sys __name__ format format_map".split()
)
UNUSED_WORDS = re.compile(
    r"\b(type|typing|typing_extensions|enum|Enum|IntEnum|StrEnum|Flag|IntFlag|Generic|Protocol|ABC|ABCMeta|namedtuple|"
    r"NamedTuple|TypedDict|TYPE_CHECKING|abstractmethod)\b|dataclass|overload|contextmanager"
)
WALKED = ("zip", "enumerate", "reversed", "range")


def kin(tree, *kinds):
    return [node for node in ast.walk(tree) if isinstance(node, kinds)]


def bound_names(tree):
    names = [node.id for node in kin(tree, ast.Name) if isinstance(node.ctx, ast.Store)]
    names += [node.name for node in kin(tree, ast.FunctionDef, ast.ClassDef)]
    names += [node.arg for node in kin(tree, ast.arg)]
    return names


def is_plain(value):
    if isinstance(value, ast.UnaryOp) and isinstance(value.op, ast.USub):
        value = value.operand
    if isinstance(value, (ast.List, ast.Tuple)):
        return all(is_plain(part) for part in value.elts)
    if isinstance(value, ast.Dict):
        return all(is_plain(part) for part in value.keys + value.values)
    return isinstance(value, ast.Constant) and (value.value is None or isinstance(value.value, (int, str)))


class Form(unittest.TestCase):
    def setUp(self):
        self.texts = {path: path.read_bytes().decode("utf-8") for path in sorted(PACKAGE.rglob("*.py"))}
        self.trees = {path: ast.parse(text) for path, text in self.texts.items()}

    def each(self, *kinds):
        return [(f"{path.name}:{node.lineno}", node) for path in self.trees for node in kin(self.trees[path], *kinds)]

    def test_files(self):
        """L1, L14."""
        found = [path.name for path in PACKAGE.iterdir() if path.name != "__pycache__"]
        self.assertIn("__init__.py", found)
        self.assertIn("shares.py", found)
        for name in found:
            self.assertRegex(name, r"^[a-z0-9_]+\.py$")

    def test_signs_and_sizes(self):
        """L10, L14, L17."""
        for path, text in self.texts.items():
            self.assertRegex(text, r"\A[ -~\n]*\Z", path.name)
            self.assertIsNone(UNUSED_WORDS.search(text), path.name)
            rows = text.splitlines()
            self.assertLessEqual(len(rows), 400, path.name)
            self.assertLessEqual(max(len(row) for row in rows), 120, path.name)
        for where, node in self.each(ast.FunctionDef):
            self.assertLessEqual(node.end_lineno - node.lineno + 1, 40, where)

    def test_nothing_is_imported(self):
        """The interface: it imports nothing."""
        self.assertEqual(self.each(ast.Import, ast.ImportFrom), [])

    def test_top_of_a_file(self):
        """L3, L15."""
        for path, tree in self.trees.items():
            names = []
            for place, node in enumerate(tree.body):
                where = f"{path.name}:{node.lineno}"
                if isinstance(node, (ast.FunctionDef, ast.ClassDef)):
                    names.append(node.name)
                elif isinstance(node, ast.Assign):
                    self.assertTrue(isinstance(node.targets[0], ast.Name) and is_plain(node.value), where)
                    names.append(node.targets[0].id)
                else:
                    self.assertTrue(place == 0 and ast.get_docstring(tree) is not None, where)
            self.assertEqual(len(names), len(set(names)), path.name)

    def test_functions(self):
        """L4, L21, L28."""
        for where, node in self.each(ast.FunctionDef):
            given = node.args
            self.assertFalse(given.vararg or given.kwarg or given.kwonlyargs or given.posonlyargs, where)
            self.assertEqual(node.decorator_list, [], where)
            self.assertIsNone(node.returns, where)
            self.assertTrue(all(arg.annotation is None for arg in given.args), where)
            self.assertTrue(all(is_plain(value) for value in given.defaults), where)
            if node.name == "__init__":
                self.assertEqual(kin(node, ast.Return), [], where)

    def test_classes(self):
        """L5, L18."""
        methods, values = set(), set()
        for where, node in self.each(ast.ClassDef):
            self.assertEqual((node.decorator_list, node.keywords), ([], []), where)
            self.assertLessEqual(len(node.bases), 1, where)
            own = [part.name for part in node.body if isinstance(part, ast.FunctionDef)]
            others = [part for part in node.body if not isinstance(part, ast.FunctionDef)]
            self.assertTrue(all(isinstance(part, ast.Expr) for part in others) and len(others) <= 1, where)
            self.assertEqual(len(own), len(set(own)), where)
            methods.update(own)
        for where, node in self.each(ast.Attribute):
            if isinstance(node.ctx, ast.Store):
                values.add(node.attr)
        self.assertEqual(methods & values, set())

    def test_statements_and_expressions(self):
        """L6, L7, L20."""
        for where, node in self.each(ast.stmt):
            self.assertIsInstance(node, STATEMENTS, where)
        for where, node in self.each(ast.expr):
            self.assertIsInstance(node, EXPRESSIONS, where)
        for where, node in self.each(ast.While, ast.For):
            self.assertEqual(node.orelse, [], where)
        for where, node in self.each(ast.Assign):
            self.assertTrue(len(node.targets) == 1 and not isinstance(node.targets[0], ast.Tuple), where)
        for where, node in self.each(ast.Constant):
            self.assertNotIsInstance(node.value, (float, complex, bytes), where)
        for where, node in self.each(ast.BinOp, ast.AugAssign):
            self.assertNotIsInstance(node.op, (ast.Div, ast.MatMult, ast.Pow), where)
        for where, node in self.each(ast.ListComp):
            self.assertTrue(len(node.generators) == 1 and len(node.generators[0].ifs) <= 1, where)
        for where, node in self.each(ast.Compare):
            self.assertFalse(any(isinstance(op, (ast.Is, ast.IsNot)) for op in node.ops), where)

    def test_names(self):
        """L8, L12, L15, L17."""
        for path, tree in self.trees.items():
            bound = bound_names(tree)
            for name in bound:
                if name in DUNDER_METHODS:
                    continue
                self.assertRegex(name, r"^[A-Za-z][A-Za-z0-9_]*$", path.name)
                self.assertFalse(hasattr(builtins, name) or name in UNUSED_NAMES, (path.name, name))
            for node in kin(tree, ast.Name):
                self.assertIn(node.id, OWN_NAMES | set(bound), (path.name, node.lineno))

    def test_methods_and_values(self):
        """L17, L25, L26: an object's own names are none of Python's own values'."""
        methods = {part.name for where, node in self.each(ast.ClassDef) for part in kin(node, ast.FunctionDef)}
        values = {node.attr for where, node in self.each(ast.Attribute) if isinstance(node.ctx, ast.Store)}
        taken = {name for kind in (str, int, list, dict, set, bytes, tuple) for name in dir(kind)}
        self.assertEqual((methods - DUNDER_METHODS | values) & (taken | UNUSED_NAMES), set())
        for where, node in self.each(ast.Attribute):
            self.assertIn(node.attr, OWN_METHODS | methods | values, where)

    def test_called_where_they_stand(self):
        """L18, L22, L25: classes, Python's own functions and methods are called, never kept or handed on."""
        methods = {part.name for where, node in self.each(ast.ClassDef) for part in kin(node, ast.FunctionDef)}
        for path, tree in self.trees.items():
            called = [node.func for node in kin(tree, ast.Call)]
            classes = {node.name for node in kin(tree, ast.ClassDef)}
            for node in kin(tree, ast.Name):
                if node.id in OWN_NAMES | classes:
                    self.assertIn(node, called, (path.name, node.lineno))
            for node in kin(tree, ast.Attribute):
                if node.attr in set(OWN_METHODS) | methods:
                    self.assertIn(node, called, (path.name, node.lineno))

    def test_where_defs_and_classes_stand(self):
        """L5, L15: none within a def, so that no name is read from around one."""
        for where, node in self.each(ast.FunctionDef):
            self.assertEqual(kin(node, ast.FunctionDef, ast.ClassDef), [node], where)
        for where, node in self.each(ast.ClassDef):
            self.assertEqual(kin(node, ast.ClassDef), [node], where)

    def test_top_holds_nothing_that_changes(self):
        """L15, L18: names of a file's top are whole numbers, and none is given another value within a def."""
        for path, tree in self.trees.items():
            top = {node.targets[0].id for node in tree.body if isinstance(node, ast.Assign)}
            top |= {node.name for node in tree.body if isinstance(node, (ast.FunctionDef, ast.ClassDef))}
            for node in tree.body:
                if isinstance(node, ast.Assign):
                    self.assertEqual(kin(node.value, ast.List, ast.Tuple), [], (path.name, node.lineno))
            for node in kin(tree, ast.FunctionDef):
                own = {part.id for part in kin(node, ast.Name) if isinstance(part.ctx, ast.Store)}
                own |= {part.arg for part in kin(node, ast.arg)}
                self.assertEqual(own & top, set(), (path.name, node.lineno))
            for node in kin(tree, ast.Attribute, ast.Subscript):
                if isinstance(node.ctx, ast.Store) and isinstance(node.value, ast.Name):
                    self.assertNotIn(node.value.id, top, (path.name, node.lineno))

    def test_what_is_walked_is_not_changed(self):
        """L23."""
        for where, node in self.each(ast.For):
            walked = ast.unparse(node.iter)
            for part in kin(node, ast.Attribute):
                self.assertFalse(part.attr in CHANGES and ast.unparse(part.value) == walked, where)
            for part in kin(node, ast.Subscript, ast.Name, ast.Attribute):
                base = part.value if isinstance(part, ast.Subscript) else part
                self.assertFalse(isinstance(part.ctx, ast.Store) and ast.unparse(base) == walked, where)

    def test_texts(self):
        """L27."""
        for path, text in self.texts.items():
            self.assertNotIn("\\", text, path.name)
        for where, node in self.each(ast.Constant):
            self.assertNotIn("%", str(node.value), where)

    def test_walked_at_once(self):
        """L22, L23, L24."""
        for path, tree in self.trees.items():
            walked = [node.iter for node in kin(tree, ast.For, ast.comprehension)]
            for node in kin(tree, ast.Call):
                self.assertEqual(node.keywords, [], (path.name, node.lineno))
                if isinstance(node.func, ast.Name) and node.func.id in WALKED:
                    self.assertIn(node, walked, (path.name, node.lineno))
                if isinstance(node.func, ast.Name):
                    self.assertNotIn(node.func.id, ("set", "frozenset", "chr"), (path.name, node.lineno))


if __name__ == "__main__":
    unittest.main()
