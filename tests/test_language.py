"""The package's own files keep to the small part of Python that they are written in."""

import ast
import builtins
import pathlib
import re
import unittest

PACKAGE = pathlib.Path(__file__).resolve().parent.parent / "askedproducts"

STATEMENTS = (
    ast.Assign, ast.AugAssign, ast.If, ast.While, ast.For, ast.Return, ast.Break, ast.Continue, ast.Pass,
    ast.Raise, ast.Try, ast.Expr, ast.FunctionDef, ast.ClassDef, ast.ImportFrom,
)
EXPRESSIONS = (
    ast.BinOp, ast.UnaryOp, ast.BoolOp, ast.Compare, ast.IfExp, ast.Call, ast.Attribute, ast.Subscript, ast.Slice,
    ast.ListComp, ast.List, ast.Tuple, ast.Dict, ast.Set, ast.Constant, ast.Name, ast.Lambda, ast.JoinedStr,
    ast.FormattedValue,
)
OWN_NAMES = set("""
    len range enumerate zip min max sum abs sorted reversed int str bool list tuple dict set frozenset isinstance
    ord repr any all divmod Exception ValueError TypeError KeyError IndexError LookupError ZeroDivisionError
    ArithmeticError OverflowError RuntimeError NotImplementedError AttributeError StopIteration
""".split())
ERROR_BASES = {name for name in OWN_NAMES if name[0].isupper()} - {"StopIteration", "AttributeError"}
METHODS = set("""
    append clear copy count endswith extend find get index insert isalnum isalpha isdigit islower isspace isupper
    items join keys ljust lower lstrip partition pop remove replace reverse rfind rjust rpartition rsplit rstrip
    setdefault split splitlines startswith strip update upper values zfill bit_length
""".split())
DOUBLE_UNDERSCORED = {"__init__", "__eq__", "__repr__", "__str__", "__len__"}
UNUSED_WORDS = re.compile(
    r"\b(type|typing|typing_extensions|enum|Enum|IntEnum|StrEnum|Flag|IntFlag|Generic|Protocol|ABC|ABCMeta"
    r"|namedtuple|NamedTuple|TypedDict|TYPE_CHECKING|abstractmethod)\b|dataclass|overload|contextmanager"
)
UNUSED_NAMES = set("""
    register mro elements open input version_info with_traceback add_note format format_map attrgetter breakpoint
    builtins compile copyright credits delattr dir eval exec exit gc getattr globals hasattr help id importlib
    license locals methodcaller os quit setattr super vars sys chr print
""".split())


def files():
    return sorted(path for path in PACKAGE.rglob("*") if "__pycache__" not in path.parts and path.is_file())


def bound_names(tree):
    for node in ast.walk(tree):
        if isinstance(node, (ast.FunctionDef, ast.ClassDef)):
            yield node.name
        elif isinstance(node, ast.arg):
            yield node.arg
        elif isinstance(node, ast.Name) and isinstance(node.ctx, ast.Store):
            yield node.id
        elif isinstance(node, ast.alias):
            yield node.asname or node.name


def bodies(tree):
    for node in ast.walk(tree):
        for field in ("body", "orelse", "finalbody"):
            part = getattr(node, field, None)
            if isinstance(part, list):
                yield node, part


def plain_value(node):
    if isinstance(node, ast.UnaryOp) and isinstance(node.op, ast.USub):
        node = node.operand
    if isinstance(node, (ast.List, ast.Tuple)):
        return all(plain_value(part) for part in node.elts)
    if isinstance(node, ast.Dict):
        return all(plain_value(part) for part in node.keys + node.values)
    return isinstance(node, (ast.Constant, ast.Name))


class LanguageTest(unittest.TestCase):
    def each(self):
        for path in files():
            text = path.read_text(encoding="utf-8")
            yield path, text, ast.parse(text, str(path))

    def test_files(self):
        self.assertIn(PACKAGE / "__init__.py", files())
        for path in files():
            self.assertRegex(path.name, r"^(__init__|__main__|[a-z][a-z0-9_]*)\.py$")
            self.assertNotIn(path.stem, dir(builtins))

    def test_signs_and_sizes(self):
        for path, text, tree in self.each():
            self.assertRegex(text, r"^[ -~\n]*\Z")
            lines = text.split("\n")
            self.assertLessEqual(len(lines), 400)
            self.assertLessEqual(max(len(line) for line in lines), 120)
            self.assertIsNone(UNUSED_WORDS.search(text))
            for node in ast.walk(tree):
                if isinstance(node, ast.FunctionDef):
                    self.assertLessEqual(node.end_lineno - node.lineno + 1, 40, node.name)

    def test_imports(self):
        for path, text, tree in self.each():
            for node in ast.walk(tree):
                self.assertNotIsInstance(node, ast.Import)
                if isinstance(node, ast.ImportFrom):
                    self.assertIn(node, tree.body)
                    self.assertEqual(node.level, 0)
                    self.assertTrue(node.module.startswith("askedproducts."), node.module)
                    source = PACKAGE / (node.module.split(".", 1)[1].replace(".", "/") + ".py")
                    defined = ast.parse(source.read_text(encoding="utf-8"))
                    for alias in node.names:
                        self.assertIn(alias.name, set(bound_names(defined)))

    def test_top_of_a_module(self):
        for path, text, tree in self.each():
            names = []
            for place, node in enumerate(tree.body):
                if isinstance(node, ast.Expr):
                    self.assertEqual(place, 0)
                elif isinstance(node, ast.Assign):
                    self.assertTrue(plain_value(node.value), ast.dump(node))
                    names.append(node.targets[0].id)
                elif isinstance(node, ast.ImportFrom):
                    names += [alias.name for alias in node.names]
                else:
                    self.assertIsInstance(node, (ast.FunctionDef, ast.ClassDef))
                    names.append(node.name)
            self.assertEqual(len(names), len(set(names)))

    def test_statements(self):
        for path, text, tree in self.each():
            for owner, body in bodies(tree):
                for node in body:
                    self.assertIsInstance(node, STATEMENTS, node.lineno)
                    if isinstance(node, ast.Expr) and owner is not tree:
                        self.assertIsInstance(node.value, ast.Call, node.lineno)
            for node in ast.walk(tree):
                if isinstance(node, (ast.For, ast.While)):
                    self.assertEqual(node.orelse, [])
                elif isinstance(node, ast.Assign):
                    self.assertEqual(len(node.targets), 1)
                    self.assertNotIsInstance(node.targets[0], (ast.Tuple, ast.List))
                elif isinstance(node, ast.Try):
                    self.assertEqual(node.finalbody, [])
                    for handler in node.handlers:
                        self.assertIsNotNone(handler.type)
                elif isinstance(node, ast.Raise):
                    self.assertIsInstance(node.exc, ast.Call)

    def test_functions_and_classes(self):
        for path, text, tree in self.each():
            for node in ast.walk(tree):
                if isinstance(node, (ast.FunctionDef, ast.Lambda)):
                    self.assertIsNone(node.args.vararg)
                    self.assertIsNone(node.args.kwarg)
                    self.assertEqual(node.args.kwonlyargs + node.args.posonlyargs, [])
                if isinstance(node, (ast.FunctionDef, ast.ClassDef)):
                    self.assertEqual(node.decorator_list, [])
                if isinstance(node, ast.ClassDef):
                    self.assertIn(node, tree.body)
                    self.assertLessEqual(len(node.bases), 1)
                    self.assertEqual(node.keywords, [])
                    for part in node.body:
                        self.assertIsInstance(part, (ast.FunctionDef, ast.Pass))

    def test_expressions(self):
        for path, text, tree in self.each():
            for node in ast.walk(tree):
                if isinstance(node, ast.expr):
                    self.assertIsInstance(node, EXPRESSIONS, node.lineno)
                if isinstance(node, ast.Constant):
                    self.assertIn(type(node.value), (int, str, bool, type(None)), node.lineno)
                    self.assertNotIn("%", str(node.value))
                elif isinstance(node, (ast.BinOp, ast.AugAssign)):
                    self.assertNotIsInstance(node.op, (ast.Div, ast.MatMult))
                    if isinstance(node.op, ast.Pow):
                        self.assertIsInstance(node.right, ast.Constant)
                elif isinstance(node, ast.ListComp):
                    self.assertEqual(len(node.generators), 1)
                    self.assertLessEqual(len(node.generators[0].ifs), 1)
                elif isinstance(node, ast.Compare):
                    for operation, right in zip(node.ops, node.comparators):
                        if isinstance(operation, (ast.Is, ast.IsNot)):
                            self.assertIn(right.value, (None, True, False))

    def test_names(self):
        for path, text, tree in self.each():
            bound = set(bound_names(tree))
            python_names = set(dir(builtins))
            for name in bound - DOUBLE_UNDERSCORED:
                self.assertRegex(name, r"^[A-Za-z][A-Za-z0-9_]*$")
                self.assertNotIn(name, UNUSED_NAMES | python_names)
            for node in ast.walk(tree):
                if isinstance(node, ast.Name) and node.id not in bound:
                    self.assertIn(node.id, OWN_NAMES)
                elif isinstance(node, ast.Attribute):
                    self.assertNotIn(node.attr, UNUSED_NAMES)

    def test_methods(self):
        own = set()
        for path in files():
            own |= set(bound_names(ast.parse(path.read_text(encoding="utf-8"))))
        for path, text, tree in self.each():
            for node in ast.walk(tree):
                if isinstance(node, ast.Call) and isinstance(node.func, ast.Attribute):
                    self.assertIn(node.func.attr, METHODS | own, node.lineno)

    def test_errors(self):
        for path, text, tree in self.each():
            classes = {node.name: node for node in tree.body if isinstance(node, ast.ClassDef)}
            for node in classes.values():
                for base in node.bases:
                    self.assertIn(base.id, ERROR_BASES | set(classes))
            for node in ast.walk(tree):
                if isinstance(node, ast.ExceptHandler):
                    self.assertNotIn(ast.unparse(node.type), ("Exception", "TypeError"))


if __name__ == "__main__":
    unittest.main()
