"""The form of the package: those rules of LANGUAGE.md that a look at the syntax can tell."""

import ast
import builtins
import pathlib
import re
import unittest

PACKAGE = pathlib.Path(__file__).resolve().parent.parent / "loggather"

STATEMENTS = (
    ast.Assign, ast.AugAssign, ast.AnnAssign, ast.If, ast.While, ast.For, ast.Return, ast.Break, ast.Continue,
    ast.Pass, ast.Raise, ast.Assert, ast.Delete, ast.Try, ast.Expr, ast.FunctionDef, ast.ClassDef, ast.ImportFrom)

EXPRESSIONS = (
    ast.Constant, ast.Name, ast.Attribute, ast.Subscript, ast.Slice, ast.Call, ast.BinOp, ast.UnaryOp, ast.BoolOp,
    ast.Compare, ast.IfExp, ast.List, ast.Tuple, ast.Dict, ast.Set, ast.ListComp, ast.DictComp, ast.SetComp,
    ast.JoinedStr, ast.FormattedValue, ast.Lambda, ast.Starred)

BUILTINS = set(
    "len range enumerate zip min max sum abs sorted reversed int str bool bytes list tuple dict set frozenset"
    " isinstance ord repr any all divmod Exception ValueError TypeError KeyError IndexError LookupError"
    " ZeroDivisionError ArithmeticError OverflowError RuntimeError NotImplementedError AttributeError"
    " StopIteration".split())

METHODS = set(
    "append clear copy count endswith extend find get index insert isalnum isalpha isdigit islower isspace isupper"
    " items join keys ljust lower lstrip partition pop remove replace reverse rfind rjust rpartition rsplit rstrip"
    " setdefault split splitlines startswith strip update upper values zfill bit_length title capitalize swapcase"
    " casefold center expandtabs removeprefix removesuffix rindex isascii isdecimal isnumeric istitle isidentifier"
    " isprintable translate add discard sort encode decode hex".split())

OWN_DOUBLE = {"__init__", "__eq__", "__repr__", "__str__", "__len__"}

BARRED_NAMES = set(
    "register mro elements open input version_info with_traceback add_note attrgetter breakpoint builtins compile"
    " copyright credits delattr dir eval exec exit gc getattr globals hasattr help id importlib license locals"
    " methodcaller os quit setattr super type vars sys".split())

BARRED_WORDS = re.compile(
    r"\b(type|typing|typing_extensions|enum|Enum|IntEnum|StrEnum|Flag|IntFlag|Generic|Protocol|ABC|ABCMeta"
    r"|namedtuple|NamedTuple|TypedDict|TYPE_CHECKING|abstractmethod)\b|dataclass|overload|contextmanager")


def files():
    return sorted(PACKAGE.rglob("*.py"))


def bound_names(tree):
    """All names that a file binds, with the node that binds each."""
    for node in ast.walk(tree):
        if isinstance(node, (ast.FunctionDef, ast.ClassDef)):
            yield node.name, node
        elif isinstance(node, ast.arg):
            yield node.arg, node
        elif isinstance(node, ast.Name) and not isinstance(node.ctx, ast.Load):
            yield node.id, node
        elif isinstance(node, ast.alias):
            yield node.asname or node.name, node
        elif isinstance(node, ast.ExceptHandler) and node.name:
            yield node.name, node


def methods_of(tree):
    return [part for node in ast.walk(tree) if isinstance(node, ast.ClassDef)
            for part in node.body if isinstance(part, ast.FunctionDef)]


class Language(unittest.TestCase):
    def each(self):
        for path in files():
            with self.subTest(file=path.name):
                text = path.read_text(encoding="utf-8")
                yield path, text, ast.parse(text)

    def test_files(self):
        self.assertTrue((PACKAGE / "__init__.py").is_file())
        for path in PACKAGE.rglob("*"):
            if "__pycache__" not in path.parts:
                self.assertRegex(path.name, r"\A[a-z_0-9]+\.py\Z")

    def test_characters_and_sizes(self):
        for path, text, tree in self.each():
            self.assertRegex(text, r"\A[ -~\n]*\Z")
            self.assertIsNone(BARRED_WORDS.search(text))
            self.assertLessEqual(len(text.splitlines()), 400)
            self.assertLessEqual(max([len(line) for line in text.splitlines()]), 120)
            for node in ast.walk(tree):
                if isinstance(node, ast.FunctionDef):
                    self.assertLessEqual(node.end_lineno - node.lineno + 1, 40, node.name)

    def test_imports(self):
        for path, text, tree in self.each():
            for node in ast.walk(tree):
                if isinstance(node, ast.ImportFrom):
                    self.assertIn(node, tree.body)
                    self.assertEqual(node.level, 0)
                    self.assertRegex(node.module, r"\A(loggather\.\w+|__future__)\Z")
                    self.assertNotIn("*", [alias.name for alias in node.names])

    def test_module_level(self):
        for path, text, tree in self.each():
            for node in tree.body:
                if isinstance(node, ast.Expr):
                    self.assertIsInstance(node.value, ast.Constant)
                else:
                    self.assertIsInstance(node, (ast.Assign, ast.ImportFrom, ast.FunctionDef, ast.ClassDef))

    def test_statements_and_expressions(self):
        for path, text, tree in self.each():
            for node in ast.walk(tree):
                if isinstance(node, ast.stmt):
                    self.assertIsInstance(node, STATEMENTS)
                if isinstance(node, ast.expr):
                    self.assertIsInstance(node, EXPRESSIONS)
                if isinstance(node, (ast.For, ast.While)):
                    self.assertEqual(node.orelse, [])
                if isinstance(node, ast.BinOp):
                    self.assertNotIsInstance(node.op, (ast.Div, ast.MatMult))
                if isinstance(node, ast.Starred):
                    self.assertIsInstance(node.ctx, ast.Store)
                if isinstance(node, (ast.FunctionDef, ast.ClassDef)):
                    self.assertEqual(node.decorator_list, [])
                if isinstance(node, ast.arguments):
                    self.assertEqual((node.vararg, node.kwarg, node.posonlyargs), (None, None, []))

    def test_constants(self):
        for path, text, tree in self.each():
            for node in ast.walk(tree):
                if isinstance(node, ast.Constant):
                    self.assertNotIsInstance(node.value, (float, complex))
                    if isinstance(node.value, str):
                        self.assertNotIn("%", node.value)

    def test_names(self):
        for path, text, tree in self.each():
            methods = methods_of(tree)
            imported = {alias.name for node in tree.body if isinstance(node, ast.ImportFrom) for alias in node.names}
            for name, node in bound_names(tree):
                if node in methods and name in OWN_DOUBLE:
                    continue
                self.assertRegex(name, r"\A[A-Za-z][A-Za-z0-9_]*\Z")
                self.assertNotIn(name, BARRED_NAMES)
                if node not in methods:
                    self.assertFalse(hasattr(builtins, name), name)
                if isinstance(node, (ast.arg, ast.Name)):
                    self.assertNotIn(name, imported)

    def test_names_that_are_read(self):
        for path, text, tree in self.each():
            bound = {name for name, node in bound_names(tree)}
            for node in ast.walk(tree):
                if isinstance(node, ast.Name) and isinstance(node.ctx, ast.Load):
                    self.assertIn(node.id, bound | BUILTINS)

    def test_attributes(self):
        own = set(OWN_DOUBLE)
        for path, text, tree in self.each():
            own |= {method.name for method in methods_of(tree)}
            own |= {node.attr for node in ast.walk(tree)
                    if isinstance(node, ast.Attribute) and isinstance(node.ctx, ast.Store)}
        for path, text, tree in self.each():
            for node in ast.walk(tree):
                if isinstance(node, ast.Attribute):
                    self.assertIn(node.attr, own | METHODS)

    def test_no_name_is_both_a_method_and_an_attribute(self):
        methods, attributes = [], set()
        for path, text, tree in self.each():
            methods += [method.name for method in methods_of(tree)]
            attributes |= {node.attr for node in ast.walk(tree)
                           if isinstance(node, ast.Attribute) and isinstance(node.ctx, ast.Store)}
        self.assertEqual(attributes & set(methods), set())
        self.assertNotIn("sort", methods)

    def test_no_file_imports_from_itself_through_others(self):
        imports = {}
        for path, text, tree in self.each():
            imports[f"loggather.{path.stem}"] = {
                node.module for node in tree.body if isinstance(node, ast.ImportFrom)}
        while imports:
            free = [name for name, others in imports.items() if not others & set(imports)]
            self.assertNotEqual(free, [], f"imports in a ring: {sorted(imports)}")
            for name in free:
                del imports[name]

    def test_sets_stand_in_sorted_len_and_in_alone(self):
        for path, text, tree in self.each():
            good = []
            for node in ast.walk(tree):
                if isinstance(node, ast.Call) and isinstance(node.func, ast.Name) and not node.keywords:
                    if node.func.id in ("sorted", "len"):
                        good += node.args
                if isinstance(node, ast.Compare):
                    good += node.comparators
            for node in ast.walk(tree):
                if isinstance(node, ast.Call) and isinstance(node.func, ast.Name):
                    if node.func.id in ("set", "frozenset"):
                        self.assertIn(node, good, node.lineno)
                self.assertNotIsInstance(node, ast.SetComp)

    def test_nothing_is_sorted_in_place(self):
        for path, text, tree in self.each():
            self.assertNotIn("sort", [node.attr for node in ast.walk(tree) if isinstance(node, ast.Attribute)])

    def test_double_methods_change_nothing(self):
        for path, text, tree in self.each():
            for method in methods_of(tree):
                if method.name in OWN_DOUBLE and method.name != "__init__":
                    for node in ast.walk(method):
                        self.assertNotIsInstance(node, (ast.Assign, ast.AugAssign, ast.AnnAssign, ast.Delete))
                    self.assertIsInstance(method.body[-1], ast.Return)
                if method.name == "__len__":
                    for node in ast.walk(method):
                        if isinstance(node, ast.Return):
                            self.assertEqual(node.value.func.id, "len")

    def test_is(self):
        for path, text, tree in self.each():
            for node in ast.walk(tree):
                if isinstance(node, ast.Compare):
                    for operator, right in zip(node.ops, node.comparators):
                        if isinstance(operator, (ast.Is, ast.IsNot)):
                            self.assertIsInstance(right, ast.Constant)
                            self.assertIn(right.value, (None, True, False))

    def test_errors(self):
        for path, text, tree in self.each():
            for node in ast.walk(tree):
                if isinstance(node, ast.ExceptHandler):
                    self.assertIsNotNone(node.type)
                if isinstance(node, ast.Raise) and node.exc is not None:
                    self.assertIsInstance(node.exc, ast.Call)
                    self.assertIsInstance(node.exc.func, ast.Name)


if __name__ == "__main__":
    unittest.main()
