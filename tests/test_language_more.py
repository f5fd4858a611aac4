"""The form of the package, on: imports, tables, classes, errors, calls and strings (LANGUAGE.md)."""

import ast
import io
import re
import tokenize
import unittest

from test_language import BUILTINS, METHODS, PACKAGE, files

TREES = {path.stem: ast.parse(path.read_text(encoding="utf-8")) for path in files()}

# The keywords that builtins take.
KEYWORDS = {
    "sorted": {"key", "reverse"}, "min": {"key", "default"}, "max": {"key", "default"}, "sum": {"start"},
    "enumerate": {"start"}, "zip": {"strict"}}

# What hands out its things one by one, and where that may stand beside loops.
ONE_BY_ONE = {"zip", "enumerate", "reversed", "range"}
TAKERS = {"list", "tuple", "dict", "sorted", "sum", "any", "all", "enumerate", "zip", "bytes", "min", "max"}

# Errors of Python's own that are caught freely.
FREE = {"KeyError", "ZeroDivisionError", "StopIteration"}


def nodes(kind):
    return [(name, node) for name, tree in TREES.items() for node in ast.walk(tree) if isinstance(node, kind)]


def called(node):
    """The name of what is called, where it is a plain name."""
    return node.func.id if isinstance(node, ast.Call) and isinstance(node.func, ast.Name) else None


def names_at_the_top(tree):
    """All names that are bound at module level, as often as they are."""
    names = []
    for node in tree.body:
        if isinstance(node, (ast.FunctionDef, ast.ClassDef)):
            names.append(node.name)
        elif isinstance(node, ast.ImportFrom):
            names += [alias.asname or alias.name for alias in node.names]
        elif isinstance(node, ast.Assign):
            names += [target.id for target in node.targets]
    return names


def parents(tree):
    return {child: node for node in ast.walk(tree) for child in ast.iter_child_nodes(node)}


class Tops(unittest.TestCase):
    def test_each_name_is_bound_once(self):
        for name, tree in TREES.items():
            names = names_at_the_top(tree)
            self.assertEqual(len(names), len(set(names)), name)

    def test_imports_name_the_file_that_defines_the_name(self):
        for name, node in nodes(ast.ImportFrom):
            home = TREES[node.module.removeprefix("loggather.")]
            defined = [other for other in names_at_the_top(home)
                       if other not in [alias.name for part in home.body if isinstance(part, ast.ImportFrom)
                                        for alias in part.names]]
            for alias in node.names:
                self.assertIn(alias.name, defined, name)
                self.assertIsNone(alias.asname)

    def test_what_is_imported_is_used(self):
        for name, tree in TREES.items():
            read = {node.id for node in ast.walk(tree) if isinstance(node, ast.Name)}
            for node in tree.body:
                if isinstance(node, ast.ImportFrom):
                    self.assertEqual({alias.name for alias in node.names} - read, set(), name)

    def test_values_at_the_top_are_plain(self):
        for name, tree in TREES.items():
            above = set()
            for node in tree.body:
                if isinstance(node, ast.FunctionDef):
                    above.add(node.name)
                if isinstance(node, ast.Assign):
                    self.assertEqual(len(node.targets), 1)
                    for part in ast.walk(node.value):
                        self.assertIsInstance(part, (ast.Constant, ast.Tuple, ast.List, ast.Dict, ast.Name, ast.Load))
                        if isinstance(part, ast.Name):
                            self.assertIn(part.id, above, name)

    def test_tables_at_the_top_are_only_read(self):
        for name, tree in TREES.items():
            tables = {node.targets[0].id for node in tree.body
                      if isinstance(node, ast.Assign) and isinstance(node.value, (ast.List, ast.Dict))}
            around = parents(tree)
            for node in ast.walk(tree):
                if isinstance(node, ast.Name) and node.id in tables and isinstance(node.ctx, ast.Load):
                    use = around[node]
                    self.assertIsInstance(use, (ast.Subscript, ast.Compare), (name, node.lineno))
                    if isinstance(use, ast.Subscript):
                        self.assertIsInstance(use.ctx, ast.Load)
                        # What a table has is given a name ahead of its call.
                        self.assertIsInstance(around[use], ast.Assign)


class Classes(unittest.TestCase):
    def test_bodies(self):
        for name, node in nodes(ast.ClassDef):
            self.assertLessEqual(len(node.bases), 1)
            self.assertEqual(node.keywords, [])
            self.assertIn(node, TREES[name].body)
            for part in node.body:
                if isinstance(part, ast.Expr):
                    self.assertIsInstance(part.value, ast.Constant)
                else:
                    self.assertIsInstance(part, ast.FunctionDef)

    def test_no_method_twice(self):
        for name, node in nodes(ast.ClassDef):
            methods = [part.name for part in node.body if isinstance(part, ast.FunctionDef)]
            self.assertEqual(len(methods), len(set(methods)))

    def test_classes_are_called_caught_raised_or_looked_for(self):
        classes = {node.name for name, node in nodes(ast.ClassDef)}
        for tree in TREES.values():
            around = parents(tree)
            for node in ast.walk(tree):
                if isinstance(node, ast.Name) and node.id in classes:
                    use = around[node]
                    if isinstance(use, ast.Call) and use.func is not node:
                        self.assertEqual(called(use), "isinstance")
                        self.assertIs(use.args[1], node)
                    elif isinstance(use, ast.Attribute):
                        self.assertEqual(use.attr, "__init__")
                    else:
                        self.assertIsInstance(use, (ast.Call, ast.ClassDef, ast.ExceptHandler))

    def test_no_attribute_has_the_name_of_a_builtin_method(self):
        for name, node in nodes(ast.Attribute):
            if isinstance(node.ctx, ast.Store):
                self.assertNotIn(node.attr, METHODS | set(dir(str)) | set(dir(list)) | set(dir(dict)) | set(dir(int)))

    def test_init_returns_nothing(self):
        for name, node in nodes(ast.FunctionDef):
            if node.name == "__init__":
                self.assertEqual([part for part in ast.walk(node) if isinstance(part, ast.Return)], [])


class Calls(unittest.TestCase):
    def test_keywords_of_builtins_and_of_methods(self):
        for name, node in nodes(ast.Call):
            given = {keyword.arg for keyword in node.keywords}
            if called(node) in BUILTINS:
                self.assertLessEqual(given, KEYWORDS.get(called(node), set()), (name, node.lineno))
            if isinstance(node.func, ast.Attribute) and node.func.attr in METHODS:
                self.assertEqual(given, set(), (name, node.lineno))
            if "default" in given:
                self.assertEqual(len(node.args), 1)

    def test_builtins_are_called_and_not_stored(self):
        for name, tree in TREES.items():
            around = parents(tree)
            for node in ast.walk(tree):
                if isinstance(node, ast.Name) and node.id in BUILTINS:
                    use = around[node]
                    plain = isinstance(use, ast.Call) and (use.func is node or called(use) == "isinstance")
                    key = isinstance(use, ast.keyword) and use.arg == "key"
                    base = isinstance(use, (ast.ClassDef, ast.ExceptHandler))
                    self.assertTrue(plain or key or base, (name, node.lineno))

    def test_methods_are_called_where_they_stand(self):
        own = {part.name for name, node in nodes(ast.ClassDef) for part in node.body
               if isinstance(part, ast.FunctionDef)}
        for name, tree in TREES.items():
            around = parents(tree)
            for node in ast.walk(tree):
                if isinstance(node, ast.Attribute) and node.attr in METHODS | own:
                    self.assertIsInstance(around[node], ast.Call, (name, node.lineno))
                    self.assertIs(around[node].func, node)

    def test_what_comes_one_by_one_is_taken_at_once(self):
        for name, tree in TREES.items():
            around = parents(tree)
            for node in ast.walk(tree):
                loose = called(node) in ONE_BY_ONE or (
                    isinstance(node, ast.Call) and isinstance(node.func, ast.Attribute)
                    and node.func.attr in ("items", "keys", "values"))
                if loose:
                    use = around[node]
                    if isinstance(use, ast.Call):
                        both = called(node) == "range" and called(use) in ("reversed", "len")
                        self.assertTrue(both or called(use) in TAKERS, (name, node.lineno))
                    else:
                        self.assertIsInstance(use, (ast.For, ast.comprehension))
                        self.assertIs(use.iter, node)

    def test_defaults_are_plain(self):
        for name, node in nodes(ast.arguments):
            for default in node.defaults + [one for one in node.kw_defaults if one]:
                for part in ast.walk(default):
                    self.assertIsInstance(part, (ast.Constant, ast.Tuple, ast.Name, ast.Load))

    def test_comprehensions_are_small_and_in_functions(self):
        for name, tree in TREES.items():
            for node in tree.body:
                if not isinstance(node, (ast.FunctionDef, ast.ClassDef)):
                    for part in ast.walk(node):
                        self.assertNotIsInstance(part, (ast.ListComp, ast.DictComp, ast.SetComp, ast.Set))
        for name, node in nodes((ast.ListComp, ast.DictComp)):
            self.assertLessEqual(len(node.generators), 6)

    def test_no_loop_changes_what_it_goes_through(self):
        for name, node in nodes(ast.For):
            if isinstance(node.iter, ast.Name):
                for part in ast.walk(node):
                    if isinstance(part, ast.Call) and isinstance(part.func, ast.Attribute):
                        owner = part.func.value
                        self.assertFalse(isinstance(owner, ast.Name) and owner.id == node.iter.id, (name, part.lineno))

    def test_powers_and_remainders(self):
        for name, node in nodes(ast.BinOp):
            self.assertNotIsInstance(node.op, ast.Pow)
            # Only bytes make a remainder doubtful, and here are none of both.
            self.assertNotIsInstance(node.op, ast.Mod)

    def test_two_lambdas_never_share_a_line(self):
        lines = [(name, node.lineno) for name, node in nodes(ast.Lambda)]
        self.assertEqual(len(lines), len(set(lines)))


class Errors(unittest.TestCase):
    def test_what_is_caught(self):
        own = {node.name for name, node in nodes(ast.ClassDef) if name == "errors"}
        for name, node in nodes(ast.ExceptHandler):
            caught = node.type.elts if isinstance(node.type, ast.Tuple) else [node.type]
            self.assertNotEqual(caught, [])
            for error in caught:
                self.assertIn(error.id, own | FREE, name)

    def test_what_is_raised(self):
        own = {node.name for name, node in nodes(ast.ClassDef) if name == "errors"}
        for name, node in nodes(ast.Raise):
            if node.exc is not None:
                self.assertIn(node.exc.func.id, own)
                self.assertEqual(node.exc.keywords, [])
            if node.cause is not None:
                self.assertIsNone(node.cause.value)


class Strings(unittest.TestCase):
    def test_escapes(self):
        for path in files():
            with self.subTest(file=path.name):
                text = path.read_text(encoding="utf-8")
                for token in tokenize.generate_tokens(io.StringIO(text).readline):
                    if "STRING" in tokenize.tok_name[token.type]:
                        for sign in re.findall(r"\\(.)", token.string.replace("\\\\", "")):
                            self.assertIn(sign, "nt\"'")

    def test_f_strings_have_no_format(self):
        for name, node in nodes(ast.FormattedValue):
            self.assertIsNone(node.format_spec)
            for part in ast.walk(node.value):
                self.assertNotIsInstance(part, (ast.JoinedStr, ast.Constant))

    def test_no_bytes(self):
        for name, node in nodes(ast.Constant):
            self.assertNotIsInstance(node.value, bytes)

    def test_no_tabs_and_no_loose_blanks(self):
        for path in files():
            for line in path.read_text(encoding="utf-8").splitlines():
                self.assertEqual(line, line.rstrip())
                self.assertNotIn("\t", line)

    def test_nothing_but_python_in_the_package(self):
        self.assertEqual([path for path in PACKAGE.rglob("*") if path.is_dir() and path.name != "__pycache__"], [])


if __name__ == "__main__":
    unittest.main()
